import PyProof.Rows.All
import Wide.All
import OpenK.AllK
import Wide.FinOn
import PyProof.EqAt
import PyProof.EqKinds
import PyProof.TupleCall
import KE.BitLaws
import Open.SpecLaws
import KE.OsHead
import KE.OsGo
import KE.KTupSum
import PySem.Challenge.RW_chameleons_s01_answers

set_option Elab.async false
set_option linter.all false
set_option maxRecDepth 100000
/-! THE HAND LAYER, for ints, bools, texts, own classes, lists, tuples, dicts, comprehensions, walks over dicts, enumerate, zip, reversed, texts, calls, loops. Paste it whole ahead of your own text; what your proof does not reach may be deleted. -/
namespace L2
open PySem PySem.Spec PyProof.Rows

/-- a key: an int or a str -/
abbrev Key := Sum Int Str
def keyIs : Key → Value → Bool
  | .inl k, v => Value.isInt k v
  | .inr x, v => Value.isStrOf x v
def keyH (w : World) : Key → Int
  | .inl k => hashInt k
  | .inr x => hashStr w x
theorem keyIs_shape : ∀ {k : Key} {v : Value}, keyIs k v = true → (∃ i t, k = Sum.inl i ∧ v = Value.int i t) ∨ (∃ x t, k = Sum.inr x ∧ v = Value.str x t)
  | .inl i, v, h => by
    obtain ⟨t, e⟩ := Value.isInt_shape (k := i) (v := v) h
    exact .inl ⟨i, t, rfl, e⟩
  | .inr x, v, h => by
    obtain ⟨t, e⟩ := Value.isStrOf_shape (x := x) (v := v) h
    exact .inr ⟨x, t, rfl, e⟩
theorem keyIs_int (i : Int) (t : Tok) : keyIs (.inl i) (.int i t) = true := by simp [keyIs, Value.isInt]
theorem keyIs_str (x : Str) (t : Tok) : keyIs (.inr x) (.str x t) = true := by simp [keyIs, Value.isStrOf]
theorem key_ll (a b : Int) : decide ((Sum.inl a : Key) = Sum.inl b) = (a == b) := by
  by_cases e : a = b
  · subst e; simp
  · have h : ¬ (Sum.inl a : Key) = Sum.inl b := fun q => e (Sum.inl.inj q)
    rw [decide_eq_false h]
    exact (beq_eq_false_iff_ne.mpr e).symm
theorem key_rr (a b : Str) : decide ((Sum.inr a : Key) = Sum.inr b) = decide (a = b) := by
  by_cases e : a = b
  · subst e; simp
  · have h : ¬ (Sum.inr a : Key) = Sum.inr b := fun q => e (Sum.inr.inj q)
    rw [decide_eq_false h, decide_eq_false e]
theorem key_lr (a : Int) (b : Str) : decide ((Sum.inl a : Key) = Sum.inr b) = false := decide_eq_false (fun q => nomatch q)
theorem key_rl (a : Str) (b : Int) : decide ((Sum.inr a : Key) = Sum.inl b) = false := decide_eq_false (fun q => nomatch q)

def mixKind (prog : Program) (w : World) : PySem.KeyKind prog w Key where
  is := keyIs
  hash := keyH w
  inj := fun v a b ha hb => by
    rcases keyIs_shape ha with ⟨i, t, rfl, rfl⟩ | ⟨x, t, rfl, rfl⟩
    · rcases keyIs_shape hb with ⟨j, u, rfl, e⟩ | ⟨y, u, rfl, e⟩
      · injection e with e1 _; rw [e1]
      · exact nomatch e
    · rcases keyIs_shape hb with ⟨j, u, rfl, e⟩ | ⟨y, u, rfl, e⟩
      · exact nomatch e
      · injection e with e1 _; rw [e1]
  byValue := fun k v h => by
    rcases keyIs_shape h with ⟨i, t, rfl, rfl⟩ | ⟨x, t, rfl, rfl⟩ <;> rfl
  pyHash := fun hv h => by
    rcases keyIs_shape hv with ⟨i, t, rfl, rfl⟩ | ⟨x, t, rfl, rfl⟩
    · exact wpAny_pyHash_int h
    · exact wpAny_pyHash_str h
  eqBool := fun hu hv h => by
    rcases keyIs_shape hu with ⟨i, t, rfl, rfl⟩ | ⟨x, t, rfl, rfl⟩
    · rcases keyIs_shape hv with ⟨j, u, rfl, rfl⟩ | ⟨y, u, rfl, rfl⟩
      · rw [key_ll] at h; exact wpAny_eqBool_int h
      · rw [key_lr] at h; exact SeqAt.EqAt.int_str i t y u _ _ _ _ h
    · rcases keyIs_shape hv with ⟨j, u, rfl, rfl⟩ | ⟨y, u, rfl, rfl⟩
      · rw [key_rl] at h; exact SeqAt.EqAt.str_int x t j u _ _ _ _ h
      · rw [key_rr] at h; exact wpAny_eqBool_str h
  «strs» := fun k x t v h => by
    rcases keyIs_shape h with ⟨i, u, rfl, e⟩ | ⟨y, u, rfl, e⟩
    · exact nomatch e
    · injection e with e1 _
      subst e1
      cases v <;> rfl

theorem mixKind_int (prog : Program) (w : World) (i : Int) (t : Tok) : (mixKind prog w).is (.inl i) (.int i t) = true := keyIs_int i t
theorem mixKind_str (prog : Program) (w : World) (x : Str) (t : Tok) : (mixKind prog w).is (.inr x) (.str x t) = true := keyIs_str x t
end L2

namespace L2
open PySem PySem.Spec PyProof.Rows

/-- a value, without the heap -/
inductive V where
  | non | bl (b : Bool) | int (i : Int) | str (x : Str) | byt (b : Array UInt8) | flt (b : UInt64) | ref (a : Addr) | ty (n : String)
  deriving DecidableEq

def RelV : V → Value → Prop
  | .non, u => u = Value.none
  | .bl b, u => u = Value.bool b
  | .int i, u => ∃ t, u = Value.int i t
  | .str x, u => ∃ t, u = Value.str x t
  | .byt b, u => ∃ t, u = Value.bytes b t
  | .flt b, u => ∃ t, u = Value.float b t
  | .ref a, u => u = Value.ref a
  | .ty n, u => u = Value.type n

abbrev Vals : List V → List Value → Prop := Paired RelV
theorem Vals.length {xs : List V} {us : List Value} (r : Vals xs us) : xs.length = us.length := Paired.length r
theorem Vals.get : ∀ {xs : List V} {us : List Value} {i : Nat} {x : V}, Vals xs us → xs[i]? = some x → ∃ u, us[i]? = some u ∧ RelV x u
  | _, _, _, _, .nil, e => by simp at e
  | _, _, 0, _, .cons r _, e => by simp at e; subst e; exact ⟨_, rfl, r⟩
  | _, _, i + 1, x, .cons _ t, e => by
    obtain ⟨u, h1, h2⟩ := Vals.get (i := i) (x := x) t (by simpa using e)
    exact ⟨u, by simpa using h1, h2⟩
theorem Vals.set {x : V} {u : Value} (r : RelV x u) : ∀ {xs : List V} {us : List Value} (i : Nat), Vals xs us → Vals (xs.set i x) (us.set i u)
  | _, _, _, .nil => .nil
  | _, _, 0, .cons _ t => .cons r t
  | _, _, i + 1, .cons q t => .cons q (Vals.set r i t)
theorem Vals.append : ∀ {xs ys : List V} {us ws : List Value}, Vals xs us → Vals ys ws → Vals (xs ++ ys) (us ++ ws)
  | _, _, _, _, .nil, s => s
  | _, _, _, _, .cons r t, s => .cons r (Vals.append t s)
theorem Vals.take : ∀ {xs : List V} {us : List Value} (n : Nat), Vals xs us → Vals (xs.take n) (us.take n)
  | _, _, 0, _ => .nil
  | _, _, _ + 1, .nil => .nil
  | _, _, n + 1, .cons r t => .cons r (Vals.take n t)
theorem Vals.drop : ∀ {xs : List V} {us : List Value} (n : Nat), Vals xs us → Vals (xs.drop n) (us.drop n)
  | _, _, 0, r => r
  | _, _, _ + 1, .nil => .nil
  | _, _, n + 1, .cons _ t => Vals.drop n t
def RelO : Option V → Option Value → Prop
  | some v, some u => RelV v u
  | none, none => True
  | _, _ => False
def KV {κ : Type} : List (κ × V) → List (κ × Value) → Prop := Paired fun (p : κ × V) (q : κ × Value) => p.1 = q.1 ∧ RelV p.2 q.2

/-- a key of a dict (00_mix): an int or a text -/
def kV : Key → V
  | .inl i => .int i
  | .inr x => .str x

/-- what stands at a tracked address -/
inductive HO where
  /-- a list -/
  | lst (xs : List V)
  /-- a tuple (never changes) -/
  | tup (xs : List V)
  /-- a dict whose keys are ints and texts; one whose keys are tuples of ints and texts (the empty one is both) -/
  | dK (kvs : List (Key × V)) | dT (kvs : List (List Key × V))
  /-- a set of ints: its members, its size -/
  | set (S : Int → Bool) (n : Nat)
  /-- an instance of the class at C, its dict at dx, its attributes -/
  | ins (C dx : Addr) (fs : List (Str × V))
  /-- the dict of the instance at x -/
  | own (x : Addr)
  /-- the dict of an exception -/
  | xd (fs : List (Str × V))
  /-- a bound method, f of x -/
  | met (f x : Addr)
  /-- a range object lo, lo + 1, .. below hi -/
  | rng (lo hi : Int)
  /-- a thing that is known to the object (the script; a dict while a loop walks it): read, never written while it is so -/
  | frz (o : Obj) (u : HO)
  /-- a code object's table -/
  | tbl (ps : Array Value)
  /-- any other thing, by what is true of its one object (a def of one's own: SetO a S n := HO.ext fun h => ..) -/
  | ext (φ : Heap → Prop)

abbrev Hp := Addr → Option HO
def upd (H : Hp) (a : Addr) (o : HO) : Hp := fun b => if b = a then some o else H b
theorem upd_same {H : Hp} {a : Addr} {o : HO} : upd H a o a = some o := by unfold upd; rw [if_pos rfl]
theorem upd_ne {H : Hp} {a b : Addr} {o : HO} (h : b ≠ a) : upd H a o b = H b := by unfold upd; rw [if_neg h]
theorem upd_upd {H : Hp} {a : Addr} {o u : HO} : upd (upd H a o) a u = upd H a u := by
  funext b; unfold upd; split <;> rfl
/-- two objects of different content stand apart -/
theorem ne_of {H : Hp} {a b : Addr} {o u : HO} (h : H a = some o) (h' : H b = some u) (d : o ≠ u) : a ≠ b := by
  intro e; subst e; rw [h] at h'; exact d (Option.some.inj h')
theorem ne_of_none {H : Hp} {a b : Addr} {o : HO} (h : H a = some o) (h' : H b = none) : a ≠ b := by
  intro e; subst e; rw [h] at h'; cases h'

section
variable (P : Program) (w : World)
def ObjOk (H : Hp) (h : Heap) (a : Addr) : HO → Prop
  | .lst xs => xs.length ≤ sizeLine ∧ ∃ (its : List Value) (n : Nat), Vals xs its ∧ h.get? a = some { cls := .type "list", data := .seq its.toArray n }
  | .tup xs => xs.length ≤ sizeLine ∧ ∃ its : List Value, Vals xs its ∧ IsTup h a its.toArray
  | .dK kvs => kvs.length ≤ sizeLine ∧ (a == sysModules) = false ∧ ∃ vs, KV kvs vs ∧ h.DictOf (mixKind P w) a vs
  | .dT kvs => kvs.length ≤ sizeLine ∧ (a == sysModules) = false ∧ ∃ xs : List (List Key × Addr × Value),
      Paired (fun (p : List Key × V) (q : List Key × Addr × Value) => p.1 = q.1 ∧ H q.2.1 = some (.tup (p.1.map kV)) ∧ RelV p.2 q.2.2) kvs xs ∧
      ∃ o es ep, h.get? a = some o ∧ o.ExactDict ∧ o.data = .dict es ep ∧ es.toList = xs.map (entryOfKey (tupleKind (mixKind P w))) ∧ (xs.map (·.1)).Nodup
  | .set S n => h.SetOf (intKind P w) a S n
  | .ins C dx fs => H dx = some (.own a) ∧ fs.length ≤ 1000 ∧ dx ≠ a ∧ h.get? a = some (PySem.W.instObj C dx) ∧
      ∃ mA, h.Ns1 dx mA ∧ (∀ f, RelO (fs.lookup f) (mA f)) ∧ PySem.Within mA (fs.map (·.1))
  | .own _ => ∃ o, h.get? a = some o
  | .xd fs => ∃ mA, h.Ns1 a mA ∧ ∀ f, RelO (fs.lookup f) (mA f)
  | .rng lo hi => ∃ t u v, h.get? a = some { cls := .type "range", data := .fields #[.int lo t, .int hi u, .int 1 v] }
  | .frz o u => h.get? a = some o ∧ ObjOk H h a u
  | .tbl ps => h.get? a = some { cls := .none, data := .fields ps }
  | .met f x => h.get? a = some (PySem.W.methodObj (.ref f) (.ref x))
  | .ext φ => φ h ∧ (∃ o, h.get? a = some o) ∧ ∀ h1 h2 : Heap, φ h1 → (∀ o, h1.get? a = some o → h2.get? a = some o) → φ h2
/-- the abstract heap is held -/
def HOk (H : Hp) (h : Heap) : Prop := ∀ a o, H a = some o → ObjOk P w H h a o
end

section
variable {P : Program} {w : World} {H H' : Hp} {h h' : Heap} {a : Addr} {o : HO}
theorem ObjOk.lt (x : ObjOk P w H h a o) : a < h.objs.size := by
  cases o with
  | lst xs => obtain ⟨_, _, _, _, e⟩ := x; exact Heap.lt_size e
  | tup xs => obtain ⟨_, _, _, p⟩ := x; exact p.lt
  | dK kvs => obtain ⟨_, _, _, _, o, _, _, e, _⟩ := x; exact Heap.lt_size e
  | dT kvs => obtain ⟨_, _, _, _, o, _, _, e, _⟩ := x; exact Heap.lt_size e
  | set S n => obtain ⟨o, _, _, _, e, _⟩ := x; exact Heap.lt_size e
  | ins C dx fs => obtain ⟨_, _, _, e, _⟩ := x; exact Heap.lt_size e
  | own y => obtain ⟨_, e⟩ := x; exact Heap.lt_size e
  | xd fs => obtain ⟨_, ⟨_, _, _, e, _⟩, _⟩ := x; exact Heap.lt_size e
  | rng lo hi => obtain ⟨_, _, _, e⟩ := x; exact Heap.lt_size e
  | frz ob u => obtain ⟨e, _⟩ := x; exact Heap.lt_size e
  | tbl ps => exact Heap.lt_size (show h.get? a = some _ from x)
  | met f y => exact Heap.lt_size (show h.get? a = some _ from x)
  | ext φ => obtain ⟨_, ⟨_, e⟩, _⟩ := x; exact Heap.lt_size e
theorem Paired.mapP {α β : Type} {F G : α → β → Prop} : ∀ {l₁ : List α} {l₂ : List β}, Paired F l₁ l₂ → (∀ a b, F a b → G a b) → Paired G l₁ l₂
  | _, _, .nil, _ => .nil
  | _, _, .cons r t, f => .cons (f _ _ r) (Paired.mapP t f)
/-- what an object's description leans on: its own object, its own dict, the tuples -/
theorem ObjOk.stay (x : ObjOk P w H h a o) (k : ∀ b u, (b = a ∨ H b = some (.own a)) → h.get? b = some u → h'.get? b = some u)
    (ho : ∀ b, H b = some (.own a) → H' b = some (.own a)) (ht : ∀ b xs, H b = some (.tup xs) → H' b = some (.tup xs)) : ObjOk P w H' h' a o := by
  induction o with
  | lst xs => obtain ⟨z, its, n, r, e⟩ := x; exact ⟨z, its, n, r, k _ _ (.inl rfl) e⟩
  | tup xs => obtain ⟨z, its, r, ob, e, c⟩ := x; exact ⟨z, its, r, ob, k _ _ (.inl rfl) e, c⟩
  | dK kvs => obtain ⟨z, y, vs, r, ob, es, ep, e, c⟩ := x; exact ⟨z, y, vs, r, ob, es, ep, k _ _ (.inl rfl) e, c⟩
  | dT kvs =>
    obtain ⟨z, y, xs, r, ob, es, ep, e, c⟩ := x
    exact ⟨z, y, xs, Paired.mapP r fun p q z => ⟨z.1, ht _ _ z.2.1, z.2.2⟩, ob, es, ep, k _ _ (.inl rfl) e, c⟩
  | set S n => obtain ⟨ob, es, ep, t, e, c⟩ := x; exact ⟨ob, es, ep, t, k _ _ (.inl rfl) e, c⟩
  | ins C dx fs =>
    obtain ⟨d, z, ne, e, mA, ⟨od, es, ep, e2, c⟩, r⟩ := x
    exact ⟨ho _ d, z, ne, k _ _ (.inl rfl) e, mA, ⟨od, es, ep, k _ _ (.inr d) e2, c⟩, r⟩
  | own y => obtain ⟨ob, e⟩ := x; exact ⟨ob, k _ _ (.inl rfl) e⟩
  | xd fs => obtain ⟨mA, ⟨od, es, ep, e, c⟩, r⟩ := x; exact ⟨mA, ⟨od, es, ep, k _ _ (.inl rfl) e, c⟩, r⟩
  | rng lo hi => obtain ⟨t, u, v, e⟩ := x; exact ⟨t, u, v, k _ _ (.inl rfl) e⟩
  | frz ob u ih => obtain ⟨e, q⟩ := x; exact ⟨k _ _ (.inl rfl) e, ih q⟩
  | tbl ps =>
    have e : h.get? a = some { cls := .none, data := .fields ps } := x
    show h'.get? a = some { cls := .none, data := .fields ps }
    exact k a _ (.inl rfl) e
  | met f y =>
    have e : h.get? a = some (PySem.W.methodObj (.ref f) (.ref y)) := x
    show h'.get? a = some (PySem.W.methodObj (.ref f) (.ref y))
    exact k a _ (.inl rfl) e
  | ext φ => obtain ⟨p, ⟨o, e⟩, st⟩ := x; exact ⟨st _ _ p fun o q => k _ _ (.inl rfl) q, ⟨o, k _ _ (.inl rfl) e⟩, st⟩
theorem HOk.lt (x : HOk P w H h) (e : H a = some o) : a < h.objs.size := (x a o e).lt
theorem HOk.fresh (x : HOk P w H h) (e : h.objs.size ≤ a) : H a = none := by
  cases q : H a with
  | none => rfl
  | some u => exact absurd (Nat.lt_of_lt_of_le (x.lt q) e) (Nat.lt_irrefl _)
/-- every object of the heap is kept -/
theorem HOk.kept (x : HOk P w H h) (k : ∀ b u, h.get? b = some u → h'.get? b = some u) : HOk P w H h' := fun a o e =>
  (x a o e).stay (fun b u _ q => k b u q) (fun _ q => q) fun _ _ q => q
/-- a new object is laid and tracked -/
theorem HOk.laid (x : HOk P w H h) (k : ∀ b u, h.get? b = some u → h'.get? b = some u) (hp : h.objs.size ≤ a) (new : ObjOk P w (upd H a o) h' a o) : HOk P w (upd H a o) h' := fun b u e => by
  have hn := x.fresh hp
  by_cases hb : b = a
  · subst hb; rw [upd_same] at e; cases e; exact new
  · rw [upd_ne hb] at e
    exact (x b u e).stay (fun c v _ q => k c v q) (fun c q => by rw [upd_ne (ne_of_none q hn)]; exact q) fun c xs q => by rw [upd_ne (ne_of_none q hn)]; exact q
end

/-- what may be read as u: it is u, or a known u -/
def Rd (H : Hp) (a : Addr) (u : HO) : Prop := H a = some u ∨ ∃ o, H a = some (.frz o u)
theorem Rd.ok {P : Program} {w : World} {H : Hp} {h : Heap} {a : Addr} {u : HO} (r : Rd H a u) (x : HOk P w H h) : ObjOk P w H h a u := by
  rcases r with r | ⟨o, r⟩
  · exact x a u r
  · obtain ⟨_, q⟩ := x a _ r
    exact q
/-- what may be written -/
def Mut : Option HO → Prop
  | some (.lst _) => True
  | some (.dK _) => True
  | some (.dT _) => True
  | some (.set _ _) => True
  | some (.ins _ _ _) => True
  | some (.ext _) => True
  | _ => False
section
variable {P : Program} {w : World} {H : Hp} {h h' : Heap} {x e : Addr} {o' : HO}
/-- the object at e is changed: x itself, or the dict of the instance x -/
theorem HOk.write (ok : HOk P w H h) (mu : Mut (H x)) (he : e = x ∨ H e = some (.own x)) (k : ∀ b u, b ≠ e → h.get? b = some u → h'.get? b = some u) (heo : ∃ u, h'.get? e = some u)
    (new : ObjOk P w (upd H x o') h' x o') : HOk P w (upd H x o') h' := fun b u q => by
  have nown : ∀ c y, H c = some (.own y) → c ≠ x := fun c y r z => by subst z; rw [r] at mu; exact mu
  have ntup : ∀ c xs, H c = some (.tup xs) → c ≠ x := fun c xs r z => by subst z; rw [r] at mu; exact mu
  by_cases hb : b = x
  · subst hb; rw [upd_same] at q; cases q; exact new
  · rw [upd_ne hb] at q
    by_cases hbe : b = e
    · have q' : H b = some (.own x) := by
        rcases he with z | z
        · exact absurd (hbe.trans z) hb
        · rw [hbe]; exact z
      rw [q] at q'; cases q'
      obtain ⟨v, hv⟩ := heo
      exact ⟨v, by rw [hbe]; exact hv⟩
    · refine (ok b u q).stay (fun c v hc r => k c v ?_ r) (fun c r => by rw [upd_ne (nown c b r)]; exact r) fun c xs r => by rw [upd_ne (ntup c xs r)]; exact r
      rcases hc with rfl | hc
      · exact hbe
      · rintro rfl
        rcases he with z | z
        · exact nown c b hc z
        · rw [hc] at z; cases z; exact hb rfl
end

/-! ### kept unless tracked; of the frames at fs (the callers') the slots may change (an exception that passes writes there); of the records at ex (iterators) nothing is said -/
structure Un (fs ex : List Addr) (H H' : Hp) (h h' : Heap) : Prop where
  keep : ∀ b o, h.get? b = some o → H b = none → b ∉ fs → b ∉ ex → h'.get? b = some o
  slot : ∀ b o, h.get? b = some o → H b = none → b ∈ fs → b ∉ ex → ∃ sl, h'.get? b = some { o with slots := sl }
  free : ∀ b o, h.get? b = some o → H b = none → b ∉ ex → H' b = none
  there : ∀ b o, h.get? b = some o → b ∉ ex → ∃ o', h'.get? b = some o'
  tups : ∀ b xs, H b = some (.tup xs) → H' b = some (.tup xs)
  frzs : ∀ b o u, H b = some (.frz o u) → H' b = some (.frz o u)
  tbls : ∀ b ps, H b = some (.tbl ps) → ∃ more, H' b = some (.tbl (ps ++ more))
section
variable {fs fs' ex ex' : List Addr} {H H1 H2 : Hp} {h h1 h2 h' : Heap} {a x e : Addr} {o : HO}
theorem Un.any (u : Un fs ex H H1 h h1) {b : Addr} {ob : Obj} (q : h.get? b = some ob) (n : H b = none) (hx : b ∉ ex) : ∃ sl, h1.get? b = some { ob with slots := sl } := by
  by_cases hb : b ∈ fs
  · exact u.slot b ob q n hb hx
  · exact ⟨ob.slots, u.keep b ob q n hb hx⟩
theorem Un.kept (k : ∀ b u, h.get? b = some u → h'.get? b = some u) : Un fs ex H H h h' :=
  ⟨fun b ob q _ _ _ => k b ob q, fun b ob q _ _ _ => ⟨ob.slots, k b ob q⟩, fun _ _ _ n _ => n, fun b ob q _ => ⟨ob, k b ob q⟩, fun _ _ q => q, fun _ _ _ q => q, fun _ ps q => ⟨#[], by rw [q]; simp⟩⟩
theorem Un.refl : Un fs ex H H h h := Un.kept fun _ _ q => q
theorem Un.laid (k : ∀ b u, h.get? b = some u → h'.get? b = some u) (hp : h.objs.size ≤ a) (hn : H a = none) : Un fs ex H (upd H a o) h h' where
  keep := fun b u q _ _ _ => k b u q
  slot := fun b u q _ _ _ => ⟨u.slots, k b u q⟩
  free := fun b u q n _ => by rw [upd_ne (Nat.ne_of_lt (Nat.lt_of_lt_of_le (Heap.lt_size q) hp))]; exact n
  there := fun b u q _ => ⟨u, k b u q⟩
  tups := fun b xs q => by rw [upd_ne (ne_of_none q hn)]; exact q
  frzs := fun b u xs q => by rw [upd_ne (ne_of_none q hn)]; exact q
  tbls := fun b ps q => ⟨#[], by rw [upd_ne (ne_of_none q hn), q]; simp⟩
theorem Un.write (mu : Mut (H x)) (he : e = x ∨ H e = some (.own x)) (k : ∀ b u, b ≠ e → h.get? b = some u → h'.get? b = some u) (heo : ∃ u, h'.get? e = some u) : Un fs ex H (upd H x o) h h' := by
  have hx : ∀ b, H b = none → b ≠ x := fun b n z => by subst z; rw [n] at mu; exact mu
  have hb : ∀ b, H b = none → b ≠ e := fun b n z => by
    subst z
    rcases he with r | r
    · exact hx b n r
    · rw [n] at r; cases r
  have hm : ∀ b u, H b = some u → ¬ Mut (some u) → b ≠ x := fun b u q nm z => by subst z; rw [q] at mu; exact nm mu
  refine ⟨fun b u q n _ _ => k b u (hb b n) q, fun b u q n _ _ => ⟨u.slots, k b u (hb b n) q⟩, fun b u q n _ => by rw [upd_ne (hx b n)]; exact n, fun b u q _ => ?_,
    fun b xs q => by rw [upd_ne (hm b _ q fun z => z)]; exact q, fun b u xs q => by rw [upd_ne (hm b _ q fun z => z)]; exact q, fun b ps q => ⟨#[], by rw [upd_ne (hm b _ q fun z => z), q]; simp⟩⟩
  by_cases hbe : b = e
  · subst hbe; exact heo
  · exact ⟨u, k b u hbe q⟩
end

/-! ### the heap without what is tracked -/
def trk (h : Heap) (H : Hp) : List Addr := (List.range h.objs.size).filter fun a => (H a).isSome
def hidT (h : Heap) (H : Hp) : Heap := PySem.W.hideAll h (trk h H)
theorem hidT_size (h : Heap) (H : Hp) : (hidT h H).objs.size = h.objs.size := PySem.W.hideAll_size _ _
theorem hidT_get {h : Heap} {H : Hp} {b : Addr} {o : Obj} (e : h.get? b = some o) (n : H b = none) : (hidT h H).get? b = some o :=
  PySem.W.hideAll_get _ e fun hm => by
    have q : (H b).isSome = true := (List.mem_filter.mp hm).2
    rw [n] at q; simp at q
theorem of_hidT {h : Heap} {H : Hp} {b : Addr} {o : Obj} (e : (hidT h H).get? b = some o) : h.get? b = some o ∧ H b = none := by
  have e' : h.get? b = some o := PySem.W.of_hideAll (trk h H) e
  refine ⟨e', ?_⟩
  cases q : H b with
  | none => rfl
  | some x =>
    have hm : b ∈ trk h H := List.mem_filter.mpr ⟨List.mem_range.mpr (Heap.lt_size e'), by simp [q]⟩
    have z : (hidT h H).get? b = none := PySem.W.hideAll_none (trk h H) hm
    rw [z] at e; cases e

/-! ### OpenK's ledger, filled with every new object but one -/
def allNews (g h : Heap) (L : Addr) : List (Addr × Obj) := (List.range h.objs.size).filterMap fun a => if a = L ∨ (g.get? a).isSome = true then none else (h.get? a).map fun o => (a, o)
def rest (g h : Heap) (L d : Addr) : List (Addr × Obj) := (allNews g h L).filter fun p => decide (p.1 ≠ d)
end L2

namespace L2
open PySem PySem.Spec PyProof.Rows

/-- the module's facts, over the base: the heap at the law's entry without what is tracked there -/
structure Mod (K : PySem.W.Frag) (mg : Str → Option Value) (base : Heap) : Prop where
  kin : K.In base
  glob : base.Ns mainGlobals mg
  blt : ∃ mb, base.Ns builtinsNs mb ∧ ∀ x : Str, x ≠ "__name__" → mb x = bootBuiltins x
  nolimit : base.NoLimit

/-- the context: a def's body (or a comprehension's block) running. base: fixed through the whole law; s₀, H₀: the entry; outer: the frames whose slots others may change (a def's callers); stack: all frames that run;
   ex: iterators that were made ahead of the entry and are walked here (a comprehension's); fn: the names whose cells were made at the entry (a def: all; a comprehension's block: its own); calm: not within an except suite; pn: pins that every state bears; xe: what is wanted of an exception that leaves the code -/
structure Cx where
  prog : Program
  w : World
  K : PySem.W.Frag
  mg : Str → Option Value
  base : Heap
  A : Around
  N : List Str
  s_0 : Shared
  H_0 : Hp
  env : Env
  outer : List Env
  stack : List Env
  ex : List Addr
  fn : Str → Bool
  calm : Bool
  pn : List (Addr × Obj)
  xe : Value → Shared → Prop
/-- the callers' frames -/
def frs (l : List Env) : List Addr := l.filterMap (·.frame)
abbrev Cx.fs (X : Cx) : List Addr := frs X.outer

def Vis (sc : Scope) (x : Str) : Prop := sc.names.lookup x = some .local ∨ sc.names.lookup x = some .cell ∨ sc.names.lookup x = some .free
def Loc (sc : Scope) (x : Str) : Prop := sc.names.lookup x = some .local ∨ sc.names.lookup x = some .cell
def Look (env : Env) (h : Heap) (m : Str → Option Value) (x : Str) (u : Value) : Prop :=
  (env.kindOf x = some .local ∧ m x = some u) ∨ ((env.kindOf x = some .cell ∨ env.kindOf x = some .free) ∧ ∃ c, env.cells.lookup x = some c ∧ h.IsCell c (some u))

structure Cx.Ok (X : Cx) : Prop where
  mod : Mod X.K X.mg X.base
  kind : X.env.scope.kind = .function
  glob : X.env.globals = mainGlobals
  blt : X.env.builtins = builtinsNs
  above : X.s_0.heap.objs.size ≤ X.env.locals
  inj : ∀ x y c, X.env.cells.lookup x = some c → X.env.cells.lookup y = some c → x = y
  has : ∀ x, (X.env.kindOf x = some .cell ∨ X.env.kindOf x = some .free) → ∃ c, X.env.cells.lookup x = some c
  cab : ∀ x c, X.fn x = true → X.env.cells.lookup x = some c → X.s_0.heap.objs.size ≤ c
  hd : X.calm = true → X.A.handled = none
  frames : X.A.frames = some X.stack
  stk : X.stack = X.outer ∨ (X.stack = X.env :: X.outer ∧ X.env.frame = some X.env.locals)
  exf : ∀ b ∈ X.ex, b ≠ X.env.locals ∧ ∀ x c, X.env.cells.lookup x = some c → c ≠ b
  bs : ∀ b o, X.base.get? b = some o → X.s_0.heap.get? b = some o ∧ X.H_0 b = none
  bsz : X.base.objs.size ≤ X.s_0.heap.objs.size
  noex : ∀ b o, X.base.get? b = some o → b ∉ X.ex
  exfs : ∀ b ∈ X.ex, b ∉ X.fs
  funs : X.s_0.heap.FunFrames X.base X.outer
  frf : ∀ b ∈ X.fs, X.H_0 b = none

structure Inv (X : Cx) (pins : List (Addr × Obj)) (σ : List (Option V)) (H : Hp) (s : Shared) : Prop where
  ok : X.Ok
  os : s.os = X.s_0.os
  bare : AllBare s.gens
  base : Un X.fs X.ex X.H_0 H X.s_0.heap s.heap
  loc : ∃ m, s.heap.Ns X.env.locals m ∧ ∀ (i : Nat) (x : Str) (v : V), X.N[i]? = some x → σ[i]? = some (some v) → Vis X.env.scope x → ∃ u, RelV v u ∧ Look X.env s.heap m x u
  cell : ∀ x c, X.env.cells.lookup x = some c → ∃ v, s.heap.IsCell c v
  free : H X.env.locals = none
  freeC : ∀ x c, X.env.cells.lookup x = some c → H c = none
  pin : ∀ p ∈ X.pn ++ pins, s.heap.get? p.1 = some p.2 ∧ H p.1 = none ∧ p.1 ≠ X.env.locals ∧ p.1 ∉ X.fs ∧ ∀ v, p.2.data ≠ .cell v
  hok : HOk X.prog X.w H s.heap
  len : σ.length = X.N.length

section
variable {X : Cx} {pins : List (Addr × Obj)} {σ : List (Option V)} {H H' : Hp} {s : Shared} {h' : Heap}

theorem Cx.Ok.nofr (ok : X.Ok) {b : Addr} {o : Obj} (e : X.base.get? b = some o) : b ∉ X.fs := fun hb => by
  have := (ok.funs.mem hb).1
  rw [e] at this; cases this
theorem Inv.bs (I : Inv X pins σ H s) : ∀ b o, X.base.get? b = some o → s.heap.get? b = some o ∧ H b = none := fun b o e =>
  ⟨I.base.keep b o (I.ok.bs b o e).1 (I.ok.bs b o e).2 (I.ok.nofr e) (I.ok.noex b o e), I.base.free b o (I.ok.bs b o e).1 (I.ok.bs b o e).2 (I.ok.noex b o e)⟩
theorem Inv.bk (I : Inv X pins σ H s) : ∀ b o, X.base.get? b = some o → s.heap.get? b = some o := fun b o e => (I.bs b o e).1
theorem Inv.mod (I : Inv X pins σ H s) : Mod X.K X.mg X.base := I.ok.mod
theorem Inv.kIn (I : Inv X pins σ H s) : X.K.In s.heap := I.ok.mod.kin.keeps I.bk
/-- the frame over the base: for OpenK's rules (K.In X.base is I.mod.kin) -/
theorem Inv.fr (I : Inv X pins σ H s) : ∃ m, Fr X.base X.env.locals s.heap m :=
  let ⟨m, hn, _⟩ := I.loc
  ⟨m, hn, I.bk, Nat.le_trans I.ok.bsz I.ok.above⟩
theorem Inv.lt (I : Inv X pins σ H s) : X.env.locals < s.heap.objs.size := let ⟨_, hn, _⟩ := I.loc; hn.lt
theorem Inv.sz (I : Inv X pins σ H s) : X.s_0.heap.objs.size ≤ s.heap.objs.size := Nat.le_trans I.ok.above (Nat.le_of_lt I.lt)
theorem Inv.nofs (I : Inv X pins σ H s) {a : Addr} (h : s.heap.objs.size ≤ a) : a ∉ X.fs := fun hb => by
  obtain ⟨_, o, ho, _⟩ := I.ok.funs.mem hb
  exact absurd (Nat.lt_of_lt_of_le (Heap.lt_size ho) (Nat.le_trans I.sz h)) (Nat.lt_irrefl _)
theorem Inv.cne (I : Inv X pins σ H s) : ∀ x c, X.env.cells.lookup x = some c → c ≠ X.env.locals := fun x c e z => by
  obtain ⟨v, o, ho, hd⟩ := I.cell x c e
  obtain ⟨m, ⟨o', es, ep, ho', hd', _⟩, _⟩ := I.loc
  rw [z, ho'] at ho; cases ho; rw [hd'] at hd; cases hd
theorem Inv.funs (I : Inv X pins σ H s) : s.heap.FunFrames X.base X.outer := by
  have all : ∀ (l : List Env), (∀ b ∈ frs l, b ∈ X.fs) → X.s_0.heap.FunFrames X.base l → s.heap.FunFrames X.base l := by
    intro l
    induction l with
    | nil => intro _ _; trivial
    | cons env r ih =>
      intro hs hl
      obtain ⟨hk, ⟨L, o, hf, hn, ho, hd⟩, hr⟩ := hl
      have hL : L ∈ X.fs := hs L (by unfold frs; rw [List.filterMap_cons, hf]; exact List.mem_cons_self)
      obtain ⟨sl, e⟩ := I.base.slot L o ho (I.ok.frf L hL) hL fun z => I.ok.exfs L z hL
      exact ⟨hk, ⟨L, _, hf, hn, e, hd⟩, ih (fun b hb => hs b (by unfold frs; rw [List.filterMap_cons, hf]; exact List.mem_cons_of_mem _ hb)) hr⟩
  exact all X.outer (fun _ hb => hb) I.ok.funs

/-- the frames that run, for a call -/
theorem Inv.stack (I : Inv X pins σ H s) : s.heap.FunFrames X.base X.stack := by
  rcases I.ok.stk with e | ⟨e, hf⟩
  · rw [e]; exact I.funs
  · rw [e]
    obtain ⟨m, hn, _⟩ := I.loc
    refine .cons (by rw [I.ok.kind]; decide) hf hn ?_ I.funs
    exact Heap.get?_none_of_le (Nat.le_trans I.ok.bsz I.ok.above)
theorem Inv.stkSub (I : Inv X pins σ H s) : ∀ b ∈ frs X.stack, b ∈ X.env.locals :: X.fs := fun b hb => by
  rcases I.ok.stk with e | ⟨e, hf⟩
  · rw [e] at hb; exact List.mem_cons_of_mem _ hb
  · rw [e] at hb
    unfold frs at hb
    rw [List.filterMap_cons, hf] at hb
    exact hb
theorem Inv.stkFree (I : Inv X pins σ H s) : ∀ b ∈ frs X.stack, H b = none := fun b hb => by
  rcases List.mem_cons.mp (I.stkSub b hb) with e | hb
  · rw [e]; exact I.free
  · obtain ⟨_, o, ho, _⟩ := I.ok.funs.mem hb
    exact I.base.free b o ho (I.ok.frf b hb) fun z => I.ok.exfs b z hb

/-- THE STEP: the untracked objects but the frame and the records at ch are kept (the callers' frames up to slots), the frame's map is kept, the new abstract heap is held -/
theorem Inv.step {g' : Array GenState} {t' : Nat} {d' : Drawn} {ch : List Addr} (I : Inv X pins σ H s)
    (hch : ∀ b ∈ ch, (b ∈ X.ex ∨ X.s_0.heap.objs.size ≤ b) ∧ b ≠ X.env.locals ∧ (∀ x c, X.env.cells.lookup x = some c → c ≠ b) ∧ ∀ p ∈ X.pn ++ pins, p.1 ≠ b)
    (keep : ∀ b o, b ≠ X.env.locals → b ∉ X.fs → b ∉ ch → s.heap.get? b = some o → H b = none → h'.get? b = some o)
    (slot : ∀ b o, b ≠ X.env.locals → b ∈ X.fs → b ∉ ch → s.heap.get? b = some o → H b = none → ∃ sl, h'.get? b = some { o with slots := sl }) (free : ∀ b o, b ∉ ch → s.heap.get? b = some o → H b = none → H' b = none)
    (there : ∀ b o, b ∉ ch → s.heap.get? b = some o → ∃ o', h'.get? b = some o')
    (tups : ∀ b xs, H b = some (.tup xs) → H' b = some (.tup xs)) (frzs : ∀ b o u, H b = some (.frz o u) → H' b = some (.frz o u)) (tbls : ∀ b ps, H b = some (.tbl ps) → ∃ more, H' b = some (.tbl (ps ++ more)))
    (ns : ∀ m, s.heap.Ns X.env.locals m → h'.Ns X.env.locals m) (hok : HOk X.prog X.w H' h') (hg : AllBare g') :
    Inv X pins σ H' { s with heap := h', gens := g', drawn := d', toks := t' } := by
  have neL : ∀ b o, X.s_0.heap.get? b = some o → b ≠ X.env.locals := fun b o e => Nat.ne_of_lt (Nat.lt_of_lt_of_le (Heap.lt_size e) I.ok.above)
  have neC : ∀ b o, X.s_0.heap.get? b = some o → b ∉ X.ex → b ∉ ch := fun b o e hx hb => by
    rcases (hch b hb).1 with z | z
    · exact hx z
    · exact absurd (Nat.lt_of_lt_of_le (Heap.lt_size e) z) (Nat.lt_irrefl _)
  have cellK : ∀ x c, X.env.cells.lookup x = some c → ∀ v, s.heap.IsCell c v → h'.IsCell c v := fun x c e v ⟨o, ho, hd⟩ => by
    have nch : c ∉ ch := fun z => (hch c z).2.2.1 x c e rfl
    by_cases hc : c ∈ X.fs
    · obtain ⟨sl, q⟩ := slot c o (I.cne x c e) hc nch ho (I.freeC x c e)
      exact ⟨_, q, hd⟩
    · exact ⟨o, keep c o (I.cne x c e) hc nch ho (I.freeC x c e), hd⟩
  refine ⟨I.ok, I.os, hg, ⟨fun b o e n hb hx => ?_, fun b o e n hb hx => ?_, fun b o e n hx => ?_, fun b o e hx => ?_, fun b xs e => tups b xs (I.base.tups b xs e), fun b o xs e => frzs b o xs (I.base.frzs b o xs e), fun b ps e => ?_⟩, ?_, fun x c e => ?_, ?_, fun x c e => ?_, fun p hp => ?_, hok, I.len⟩
  · exact keep b o (neL b o e) hb (neC b o e hx) (I.base.keep b o e n hb hx) (I.base.free b o e n hx)
  · obtain ⟨sl, e1⟩ := I.base.slot b o e n hb hx
    obtain ⟨sl', e2⟩ := slot b _ (neL b o e) hb (neC b o e hx) e1 (I.base.free b o e n hx)
    exact ⟨sl', e2⟩
  · obtain ⟨o', e1⟩ := I.base.there b o e hx
    exact free b o' (neC b o e hx) e1 (I.base.free b o e n hx)
  · obtain ⟨o', e1⟩ := I.base.there b o e hx
    exact there b o' (neC b o e hx) e1
  · obtain ⟨m1, e1⟩ := I.base.tbls b ps e
    obtain ⟨m2, e2⟩ := tbls b _ e1
    exact ⟨m1 ++ m2, by rw [e2, Array.append_assoc]⟩
  · obtain ⟨m, hn, hl⟩ := I.loc
    refine ⟨m, ns m hn, fun i x v e1 e2 e3 => ?_⟩
    obtain ⟨u, r, l⟩ := hl i x v e1 e2 e3
    refine ⟨u, r, ?_⟩
    rcases l with l | ⟨k, c, e, z⟩
    · exact .inl l
    · exact .inr ⟨k, c, e, cellK x c e _ z⟩
  · obtain ⟨v, z⟩ := I.cell x c e
    exact ⟨v, cellK x c e v z⟩
  · obtain ⟨m, ⟨o, _, _, ho, _⟩, _⟩ := I.loc
    exact free _ o (fun z => (hch _ z).2.1 rfl) ho I.free
  · obtain ⟨v, o, ho, hd⟩ := I.cell x c e
    exact free c o (fun z => (hch c z).2.2.1 x c e rfl) ho (I.freeC x c e)
  · obtain ⟨e, n, ne, nf, d⟩ := I.pin p hp
    have nch : p.1 ∉ ch := fun z => (hch p.1 z).2.2.2 p hp rfl
    exact ⟨keep p.1 p.2 ne nf nch e n, free p.1 p.2 nch e n, ne, nf, d⟩
/-- .. where the frame's own object is kept too -/
theorem Inv.un {t' : Nat} (I : Inv X pins σ H s) (u : Un X.fs [] H H' s.heap h') (hok : HOk X.prog X.w H' h') : Inv X pins σ H' { s with heap := h', toks := t' } := by
  obtain ⟨m, ⟨o, es, ep, ho, r⟩, _⟩ := id I.loc
  obtain ⟨sl, hL⟩ := u.any ho I.free (by simp)
  exact I.step (g' := s.gens) (d' := s.drawn) (ch := []) (fun _ z => nomatch z) (fun b o _ hb _ e n => u.keep b o e n hb (by simp)) (fun b o _ hb _ e n => u.slot b o e n hb (by simp)) (fun b o _ e n => u.free b o e n (by simp)) (fun b o _ e => u.there b o e (by simp)) u.tups u.frzs u.tbls (fun m' hm => by
    obtain ⟨o', es', ep', ho', r'⟩ := hm
    rw [ho] at ho'; cases ho'
    exact ⟨_, es', ep', hL, r'⟩) hok I.bare
/-- behind a call (or a comprehension's block): the slots of this frame may have changed too, the records at ch may have turned -/
theorem Inv.call {g' : Array GenState} {t' : Nat} {d' : Drawn} {ch : List Addr} (I : Inv X pins σ H s) (u : Un (frs X.stack) ch H H' s.heap h') (hok : HOk X.prog X.w H' h') (hg : AllBare g')
    (hch : ∀ b ∈ ch, (b ∈ X.ex ∨ X.s_0.heap.objs.size ≤ b) ∧ b ≠ X.env.locals ∧ (∀ x c, X.env.cells.lookup x = some c → c ≠ b) ∧ ∀ p ∈ X.pn ++ pins, p.1 ≠ b) :
    Inv X pins σ H' { s with heap := h', gens := g', drawn := d', toks := t' } := by
  obtain ⟨m, ⟨o, es, ep, ho, r⟩, _⟩ := id I.loc
  obtain ⟨sl, hL⟩ := u.any ho I.free fun z => (hch _ z).2.1 rfl
  exact I.step (ch := ch) hch (fun b o hL hb hc e n => u.keep b o e n (fun z => (List.mem_cons.mp (I.stkSub b z)).elim hL hb) hc) (fun b o _ _ hc e n => u.any e n hc) (fun b o hc e n => u.free b o e n hc) (fun b o hc e => u.there b o e hc) u.tups u.frzs u.tbls (fun m' hm => by
    obtain ⟨o', es', ep', ho', r'⟩ := hm
    rw [ho] at ho'; cases ho'
    exact ⟨_, es', ep', hL, r'⟩) hok hg
/-- an untracked record of ours (an iterator) has turned -/
theorem Inv.turned {t' : Nat} {it : Addr} (I : Inv X pins σ H s) (k : ∀ b o, b ≠ it → s.heap.get? b = some o → h'.get? b = some o) (hn : H it = none) (hL : it ≠ X.env.locals)
    (h1 : it ∈ X.ex ∨ X.s_0.heap.objs.size ≤ it) (h2 : ∀ x c, X.env.cells.lookup x = some c → c ≠ it) (h3 : ∀ p ∈ X.pn ++ pins, p.1 ≠ it) : Inv X pins σ H { s with heap := h', toks := t' } := by
  have nit : ∀ b u, H b = some u → b ≠ it := fun b u e z => by rw [z, hn] at e; cases e
  refine I.step (g' := s.gens) (d' := s.drawn) (ch := [it]) (fun b hb => ?_) (fun b o _ _ hc e _ => k b o (fun z => hc (by simp [z])) e) (fun b o _ _ hc e _ => ⟨o.slots, k b o (fun z => hc (by simp [z])) e⟩) (fun _ _ _ _ n => n)
    (fun b o hc e => ⟨o, k b o (fun z => hc (by simp [z])) e⟩) (fun _ _ e => e) (fun _ _ _ e => e) (fun b ps e => ⟨#[], by rw [e]; simp⟩) (fun m hm => ?_) (fun b u e => ?_) I.bare
  · have e : b = it := by simpa using hb
    subst e
    exact ⟨h1, hL, h2, h3⟩
  · obtain ⟨o, es, ep, ho, r⟩ := hm
    exact ⟨o, es, ep, k _ o (Ne.symm hL) ho, r⟩
  · refine (I.hok b u e).stay (fun c v hc q => k c v ?_ q) (fun _ q => q) fun _ _ q => q
    rcases hc with z | z
    · rw [z]; exact nit b u e
    · exact nit c _ z
theorem Inv.tok (I : Inv X pins σ H s) (t : Nat) : Inv X pins σ H { s with toks := t } := I.un (h' := s.heap) (t' := t) Un.refl I.hok
/-- all objects kept -/
theorem Inv.kept {t' : Nat} (I : Inv X pins σ H s) (k : ∀ b u, s.heap.get? b = some u → h'.get? b = some u) : Inv X pins σ H { s with heap := h', toks := t' } := I.un (Un.kept k) (I.hok.kept k)
/-- a new object laid and tracked -/
theorem Inv.laid {a : Addr} {o : HO} {t' : Nat} (I : Inv X pins σ H s) (k : ∀ b u, s.heap.get? b = some u → h'.get? b = some u) (hp : s.heap.objs.size ≤ a) (new : ObjOk X.prog X.w (upd H a o) h' a o) :
    Inv X pins σ (upd H a o) { s with heap := h', toks := t' } := I.un (Un.laid k hp (I.hok.fresh hp)) (I.hok.laid k hp new)
/-- an object written -/
theorem Inv.write {x e : Addr} {o : HO} {t' : Nat} (I : Inv X pins σ H s) (mu : Mut (H x)) (he : e = x ∨ H e = some (.own x)) (k : ∀ b u, b ≠ e → s.heap.get? b = some u → h'.get? b = some u) (heo : ∃ u, h'.get? e = some u)
    (new : ObjOk X.prog X.w (upd H x o) h' x o) : Inv X pins σ (upd H x o) { s with heap := h', toks := t' } := I.un (Un.write mu he k heo) (I.hok.write mu he k heo new)
/-- forgetting slots, pins -/
theorem Inv.weak {σ' : List (Option V)} (I : Inv X pins σ H s) (hl : σ'.length = σ.length) (w : ∀ (i : Nat) v, σ'[i]? = some (some v) → σ[i]? = some (some v)) : Inv X pins σ' H s :=
  ⟨I.ok, I.os, I.bare, I.base, let ⟨m, hn, hl'⟩ := I.loc; ⟨m, hn, fun i x v e1 e2 e3 => hl' i x v e1 (w i v e2) e3⟩, I.cell, I.free, I.freeC, I.pin, I.hok, hl.trans I.len⟩
theorem Inv.pins_of {pins' : List (Addr × Obj)} (I : Inv X pins σ H s) (h : ∀ p ∈ pins', s.heap.get? p.1 = some p.2 ∧ H p.1 = none ∧ p.1 ≠ X.env.locals ∧ p.1 ∉ X.fs ∧ ∀ v, p.2.data ≠ .cell v) : Inv X pins' σ H s :=
  ⟨I.ok, I.os, I.bare, I.base, I.loc, I.cell, I.free, I.freeC, fun p hp => (List.mem_append.mp hp).elim (fun z => I.pin p (List.mem_append_left _ z)) (h p), I.hok, I.len⟩

theorem nodup_ix {N : List Str} (hN : N.Nodup) {i j : Nat} {x : Str} (a : N[i]? = some x) (b : N[j]? = some x) : i = j := by
  obtain ⟨h1, e1⟩ := List.getElem?_eq_some_iff.mp a
  obtain ⟨h2, e2⟩ := List.getElem?_eq_some_iff.mp b
  exact (List.getElem_inj hN).mp (e1.trans e2.symm)

/-- a name is stored; what changed -/
theorem store_ok2 {M : Model} {A : Around} {E : Value → Shared → Prop} {i : Nat} {x : Str} {v : V} {u : Value} {Q : Unit → Shared → Prop} (I : Inv X pins σ H s) (hN : X.N.Nodup) (hi : X.N[i]? = some x) (hx : Loc X.env.scope x) (r : RelV v u)
    (h : ∀ s', Inv X pins (σ.set i (some v)) H s' → (∃ a, Heap.SameBut a s.heap s'.heap ∧ (a = X.env.locals ∨ X.env.cells.lookup x = some a)) → Q () s') (hf : X.fn x = true ∨ X.env.scope.names.lookup x = some .local := by first | exact .inl rfl | exact .inr rfl | assumption) : wpAny M A (storeName X.env x u) Q E s := by
  obtain ⟨m, hn, hl⟩ := id I.loc
  have hcls : (X.env.scope.kind == .class || (X.env.scope.kind == .module && X.env.locals != X.env.globals)) = false := by rw [I.ok.kind]; rfl
  have hiσ : i < σ.length := by rw [I.len]; exact (List.getElem?_eq_some_iff.mp hi).1
  have cne := I.cne
  have tracked : ∀ {a : Addr} {h' : Heap}, (∃ o, s.heap.get? a = some o ∧ H a = none) → Heap.SameBut a s.heap h' → HOk X.prog X.w H h' := fun {a h'} ha hs b ob e => by
    obtain ⟨_, _, hfree⟩ := ha
    refine (I.hok b ob e).stay (fun c w' hc q => (hs.2 c ?_).trans q) (fun _ q => q) fun _ _ q => q
    rintro rfl
    rcases hc with rfl | hc
    · rw [hfree] at e; cases e
    · rw [hfree] at hc; cases hc
  rcases hx with hk | hk
  · refine wpAny_storeName_local hk hn (fun h' hn' hs => ?_) hcls
    obtain ⟨oL, _, _, hoL, _⟩ := id hn
    refine h _ ⟨I.ok, I.os, I.bare, ⟨fun b o e n hb hx => ?_, fun b o e n hb hx => ?_, I.base.free, fun b o e hx => ?_, I.base.tups, I.base.frzs, I.base.tbls⟩, ⟨_, hn', fun j y v' e1 e2 e3 => ?_⟩, fun y c e => ?_, I.free, I.freeC, fun p hp => ?_, tracked ⟨oL, hoL, I.free⟩ hs, by simpa using I.len⟩ ⟨_, hs, .inl rfl⟩
    · exact (hs.2 b (Nat.ne_of_lt (Nat.lt_of_lt_of_le (Heap.lt_size e) I.ok.above))).trans (I.base.keep b o e n hb hx)
    · obtain ⟨sl, e1⟩ := I.base.slot b o e n hb hx
      exact ⟨sl, (hs.2 b (Nat.ne_of_lt (Nat.lt_of_lt_of_le (Heap.lt_size e) I.ok.above))).trans e1⟩
    · obtain ⟨o', e1⟩ := I.base.there b o e hx
      exact ⟨o', (hs.2 b (Nat.ne_of_lt (Nat.lt_of_lt_of_le (Heap.lt_size e) I.ok.above))).trans e1⟩
    · by_cases hj : j = i
      · subst hj
        rw [hi] at e1; cases e1
        rw [List.getElem?_set_self hiσ] at e2
        cases e2
        exact ⟨u, r, .inl ⟨hk, by simp⟩⟩
      · rw [List.getElem?_set_ne (Ne.symm hj)] at e2
        obtain ⟨u', r', q⟩ := hl j y v' e1 e2 e3
        refine ⟨u', r', ?_⟩
        rcases q with ⟨k, e⟩ | ⟨k, c, e, z⟩
        · refine .inl ⟨k, ?_⟩
          have : y ≠ x := fun e => hj (nodup_ix hN e1 (e ▸ hi))
          simp [this, e]
        · exact .inr ⟨k, c, e, z.sameBut hs (cne y c e)⟩
    · obtain ⟨w', z⟩ := I.cell y c e
      exact ⟨w', z.sameBut hs (cne y c e)⟩
    · obtain ⟨e, n, ne, nf, d⟩ := I.pin p hp
      exact ⟨(hs.2 p.1 ne).trans e, n, ne, nf, d⟩
  · have hfn : X.fn x = true := by
      rcases hf with z | z
      · exact z
      · rw [z] at hk; cases hk
    obtain ⟨c, hc⟩ := I.ok.has x (.inl hk)
    obtain ⟨w', z⟩ := I.cell x c hc
    refine wpAny_storeName_cell I.ok.kind hk hc z (fun h' hc' hs => ?_)
    obtain ⟨oc, hoc, hocd⟩ := id z
    refine h { s with heap := h' } ⟨I.ok, I.os, I.bare, ⟨fun b o e n hb hx => ?_, fun b o e n hb hx => ?_, I.base.free, fun b o e hx => ?_, I.base.tups, I.base.frzs, I.base.tbls⟩, ⟨m, hn.sameBut hs (Ne.symm (cne x c hc)), fun j y v' e1 e2 e3 => ?_⟩, fun y c' e => ?_, I.free, I.freeC, fun p hp => ?_, tracked ⟨oc, hoc, I.freeC x c hc⟩ hs, by simpa using I.len⟩ ⟨c, hs, .inr hc⟩
    · exact (hs.2 b (Nat.ne_of_lt (Nat.lt_of_lt_of_le (Heap.lt_size e) (I.ok.cab x c hfn hc)))).trans (I.base.keep b o e n hb hx)
    · obtain ⟨sl, e1⟩ := I.base.slot b o e n hb hx
      exact ⟨sl, (hs.2 b (Nat.ne_of_lt (Nat.lt_of_lt_of_le (Heap.lt_size e) (I.ok.cab x c hfn hc)))).trans e1⟩
    · obtain ⟨o', e1⟩ := I.base.there b o e hx
      exact ⟨o', (hs.2 b (Nat.ne_of_lt (Nat.lt_of_lt_of_le (Heap.lt_size e) (I.ok.cab x c hfn hc)))).trans e1⟩
    · by_cases hj : j = i
      · subst hj
        rw [hi] at e1; cases e1
        rw [List.getElem?_set_self hiσ] at e2
        cases e2
        exact ⟨u, r, .inr ⟨.inl hk, c, hc, hc'⟩⟩
      · rw [List.getElem?_set_ne (Ne.symm hj)] at e2
        obtain ⟨u', r', q⟩ := hl j y v' e1 e2 e3
        refine ⟨u', r', ?_⟩
        rcases q with q | ⟨k, c', e, z'⟩
        · exact .inl q
        · refine .inr ⟨k, c', e, z'.sameBut hs ?_⟩
          rintro rfl
          exact hj (nodup_ix hN e1 (I.ok.inj _ _ _ e hc ▸ hi))
    · by_cases hcc : c' = c
      · subst hcc; exact ⟨_, hc'⟩
      · obtain ⟨w2, z2⟩ := I.cell y c' e
        exact ⟨w2, z2.sameBut hs hcc⟩
    · obtain ⟨e, n, ne, nf, d⟩ := I.pin p hp
      refine ⟨(hs.2 p.1 ?_).trans e, n, ne, nf, d⟩
      intro q
      rw [q, hoc] at e
      have q' : oc = p.2 := Option.some.inj e
      exact d w' (by rw [← q']; exact hocd)
theorem store_ok {M : Model} {A : Around} {E : Value → Shared → Prop} {i : Nat} {x : Str} {v : V} {u : Value} {Q : Unit → Shared → Prop} (I : Inv X pins σ H s) (hN : X.N.Nodup) (hi : X.N[i]? = some x) (hx : Loc X.env.scope x) (r : RelV v u)
    (h : ∀ s', Inv X pins (σ.set i (some v)) H s' → Q () s') (hf : X.fn x = true ∨ X.env.scope.names.lookup x = some .local := by first | exact .inl rfl | exact .inr rfl | assumption) : wpAny M A (storeName X.env x u) Q E s :=
  store_ok2 I hN hi hx r (fun s' I' _ => h s' I') hf
/-- behind a call or a block, the state as it is -/
theorem Inv.call' {s' : Shared} {ch : List Addr} (I : Inv X pins σ H s) (ho : s'.os = s.os) (u : Un (frs X.stack) ch H H' s.heap s'.heap) (hok : HOk X.prog X.w H' s'.heap) (hg : AllBare s'.gens)
    (hch : ∀ b ∈ ch, (b ∈ X.ex ∨ X.s_0.heap.objs.size ≤ b) ∧ b ≠ X.env.locals ∧ (∀ x c, X.env.cells.lookup x = some c → c ≠ b) ∧ ∀ p ∈ X.pn ++ pins, p.1 ≠ b) : Inv X pins σ H' s' := by
  obtain ⟨h', g', d', t', o'⟩ := s'
  have e : o' = s.os := ho
  subst e
  exact I.call (g' := g') (t' := t') (d' := d') u hok hg hch
end

/-! ### the judgements -/
/-- an exception: its class, its own dict's address (where it has one), the abstract heap behind it -/
abbrev XK := Value → Option Addr → Hp → Prop
abbrev St := List (Option V)
abbrev VK := V → Hp → Prop
/-- an expression's reading; a test's; an argument list's -/
abbrev TE := St → Hp → VK → Prop
abbrev TT := St → Hp → (Bool → Hp → Prop) → Prop
abbrev TA := St → Hp → (List V → Hp → Prop) → Prop
/-- what is wanted behind a statement -/
structure Ends where
  nx : St → Hp → Prop
  rt : VK
  bk : St → Hp → Prop := fun _ _ => False
  ct : St → Hp → Prop := fun _ _ => False
abbrev TS := Ends → St → Hp → Prop

def EP (X : Cx) (pins : List (Addr × Obj)) (σ : St) (Q : VK) (u : Value) (s' : Shared) : Prop := ∃ v H', Inv X pins σ H' s' ∧ RelV v u ∧ Q v H'
def TP (X : Cx) (pins : List (Addr × Obj)) (σ : St) (Q : Bool → Hp → Prop) (b : Bool) (s' : Shared) : Prop := ∃ H', Inv X pins σ H' s' ∧ Q b H'
def AP (X : Cx) (pins : List (Addr × Obj)) (σ : St) (Q : List V → Hp → Prop) (us : List Value) (s' : Shared) : Prop := ∃ vs H', Inv X pins σ H' s' ∧ Vals vs us ∧ Q vs H'
def SP (X : Cx) (pins : List (Addr × Obj)) (D : Ends) (f : Flow) (s' : Shared) : Prop :=
  match f with
  | .next => ∃ σ' H', Inv X pins σ' H' s' ∧ D.nx σ' H'
  | .brk => ∃ σ' H', Inv X pins σ' H' s' ∧ D.bk σ' H'
  | .cont => ∃ σ' H', Inv X pins σ' H' s' ∧ D.ct σ' H'
  | .ret u => ∃ v σ' H', Inv X pins σ' H' s' ∧ RelV v u ∧ D.rt v H'

def PE (X : Cx) (e : Expr) (t : TE) : Prop :=
  ∀ (pins : List (Addr × Obj)) (s : Shared) (σ : St) (H : Hp) (Q : VK), Inv X pins σ H s → t σ H Q → wpAny (model X.prog X.w) X.A (eval e X.env) (EP X pins σ Q) X.xe s
def PT (X : Cx) (e : Expr) (t : TT) : Prop :=
  ∀ (pins : List (Addr × Obj)) (s : Shared) (σ : St) (H : Hp) (Q : Bool → Hp → Prop), Inv X pins σ H s → t σ H Q → wpAny (model X.prog X.w) X.A (isTrue e X.env (eval e X.env)) (TP X pins σ Q) X.xe s
/-- a test whatever its 'whole' is (and, or) -/
def PW (X : Cx) (e : Expr) (t : TT) : Prop :=
  ∀ (whole : Sem Value) (pins : List (Addr × Obj)) (s : Shared) (σ : St) (H : Hp) (Q : Bool → Hp → Prop), Inv X pins σ H s → t σ H Q → wpAny (model X.prog X.w) X.A (isTrue e X.env whole) (TP X pins σ Q) X.xe s
theorem PW.pt {X : Cx} {e : Expr} {t : TT} (h : PW X e t) : PT X e t := h _
/-- an argument list (no star), from the left -/
def PA (X : Cx) (es : List Expr) (t : TA) : Prop :=
  ∀ (pos : Pos) (pins : List (Addr × Obj)) (s : Shared) (σ : St) (H : Hp) (Q : List V → Hp → Prop), Inv X pins σ H s → t σ H Q → wpAny (model X.prog X.w) X.A (spliced (backTo pos (starEach es X.env))) (AP X pins σ Q) X.xe s
def PS (X : Cx) (st : Stmt) (t : TS) : Prop :=
  ∀ (pins : List (Addr × Obj)) (s : Shared) (σ : St) (H : Hp) (D : Ends), Inv X pins σ H s → t D σ H → wpAny (model X.prog X.w) X.A (exec st X.env) (SP X pins D) X.xe s
def PSs (X : Cx) (st : List Stmt) (t : TS) : Prop :=
  ∀ (pins : List (Addr × Obj)) (s : Shared) (σ : St) (H : Hp) (D : Ends), Inv X pins σ H s → t D σ H → wpAny (model X.prog X.w) X.A (execs st X.env) (SP X pins D) X.xe s
/-- weaken the end -/
theorem thn {α : Type} {t : Sem α} {Q Q' : α → Shared → Prop} {M : Model} {A : Around} {E : Value → Shared → Prop} {s : Shared} (h : wpAny M A t Q E s) (hQ : ∀ a s, Q a s → Q' a s) : wpAny M A t Q' E s := wpAny_mono h hQ fun _ _ x => x
end L2

namespace L2
open PySem PySem.Spec PyProof.Rows
section
variable {X : Cx}

/-- two expressions in a row -/
theorem bin {a b : Expr} {ta tb : TE} (ha : PE X a ta) (hb : PE X b tb) {pins : List (Addr × Obj)} {s : Shared} {σ : St} {H : Hp} {R : V → V → Hp → Prop} (I : Inv X pins σ H s) (h : ta σ H fun x H1 => tb σ H1 fun y H2 => R x y H2)
    {α : Type} {Q : α → Shared → Prop} {f : Value → Value → Sem α}
    (hf : ∀ v u s2 x y H2, Inv X pins σ H2 s2 → RelV x v → RelV y u → R x y H2 → wpAny (model X.prog X.w) X.A (f v u) Q X.xe s2) :
    wpAny (model X.prog X.w) X.A (eval a X.env) (fun v s₁ => wpAny (model X.prog X.w) X.A (eval b X.env) (fun u s₂ => wpAny (model X.prog X.w) X.A (f v u) Q X.xe s₂) X.xe s₁) X.xe s := by
  refine thn (ha pins s σ H _ I h) fun v s1 ⟨x, H1, I1, r1, q1⟩ => ?_
  refine thn (hb pins s1 σ H1 _ I1 q1) fun u s2 ⟨y, H2, I2, r2, q2⟩ => ?_
  exact hf v u s2 x y H2 I2 r1 r2 q2

/-! ### names and constants -/
def tVar (i : Nat) : TE := fun σ H Q => ∃ v, σ[i]? = some (some v) ∧ Q v H
def tC (v : V) : TE := fun _ H Q => Q v H
theorem pe_var {i : Nat} {x : Str} {pos : Pos} (hN : X.N[i]? = some x) (hv : Vis X.env.scope x) (hd : (x == ("__debug__" : Str)) = false := by decide) (hcd : (x == ("__classdict__" : Str)) = false := by decide) : PE X (.Name x pos) (tVar i) := by
  intro pins s σ H Q I h
  obtain ⟨v, e, h⟩ := h
  obtain ⟨m, hn, hl⟩ := I.loc
  obtain ⟨u, r, l⟩ := hl i x v hN e hv
  have fin : EP X pins σ Q u s := ⟨v, H, I, r, h⟩
  rcases l with ⟨hk, hm⟩ | ⟨hk, c, hc, hcell⟩
  · exact wpAny_Name (wpAny_loadName_local I.ok.kind hk hn hm fin) hd
  · rcases hk with hk | hk
    · exact wpAny_Name (wpAny_loadName_cell I.ok.kind hk hc hcell fin) hd
    · exact wpAny_Name (wpAny_loadName_free I.ok.kind hk hc hcell fin hcd) hd
theorem pe_int {i j pos} : PE X (.Constant (.int i) j pos) (tC (.int i)) := fun _ _ _ H _ I h => wpAny_Constant_int ⟨.int i, H, I.tok _, ⟨_, rfl⟩, h⟩
theorem pe_bl {b j pos} : PE X (.Constant (.bool b) j pos) (tC (.bl b)) := fun _ _ _ H _ I h => Constant_bool ⟨.bl b, H, I, rfl, h⟩
/-- a global name of the def -/
def Gl (X : Cx) (x : Str) : Prop := X.env.kindOf x = some .globalImplicit
theorem ld_glob {E : Value → Shared → Prop} {pins : List (Addr × Obj)} {s : Shared} {σ : St} {H : Hp} {x : Str} {u : Value} {pos : Pos} {Q : Value → Shared → Prop} (I : Inv X pins σ H s) (hg : Gl X x) (hm : X.mg x = some u) (h : Q u s)
    (hd : (x == ("__debug__" : Str)) = false := by decide) : wpAny (model X.prog X.w) X.A (eval (.Name x pos) X.env) Q E s :=
  Calls.Name_function_global I.ok.kind hg (Calls.loadGlobal_global (by rw [I.ok.glob]; exact I.mod.glob.keeps I.bk) hm h) hd
theorem ld_blt {E : Value → Shared → Prop} {pins : List (Addr × Obj)} {s : Shared} {σ : St} {H : Hp} {x : Str} {u : Value} {pos : Pos} {Q : Value → Shared → Prop} (I : Inv X pins σ H s) (hg : Gl X x) (hm : X.mg x = none) (hv : bootBuiltins x = some u) (h : Q u s)
    (hn : x ≠ "__name__" := by decide) (hd : (x == ("__debug__" : Str)) = false := by decide) : wpAny (model X.prog X.w) X.A (eval (.Name x pos) X.env) Q E s := by
  obtain ⟨mb, h1, h2⟩ := I.mod.blt
  exact Calls.Name_function_global I.ok.kind hg (Calls.loadGlobal_builtin (by rw [I.ok.glob]; exact I.mod.glob.keeps I.bk) hm (by rw [I.ok.blt]; exact h1.keeps I.bk) ((h2 x hn).trans hv) h) hd
/-- a module's constant, a class, a function, as a value -/
theorem pe_glob {x : Str} {v : V} {u : Value} {pos : Pos} (hg : Gl X x) (hm : X.mg x = some u) (r : RelV v u) (hd : (x == ("__debug__" : Str)) = false := by decide) : PE X (.Name x pos) (tC v) :=
  fun _ _ _ H _ I h => ld_glob I hg hm ⟨v, H, I, r, h⟩ hd
/-! ### arithmetic -/
/-- two ints -/
def t2I (ta tb : TE) (k : Int → Int → Hp → Prop) : St → Hp → Prop := fun σ H => ta σ H fun x H1 => tb σ H1 fun y H2 => ∃ i j, x = .int i ∧ y = .int j ∧ k i j H2
def tAdd (ta tb : TE) : TE := fun σ H Q => t2I ta tb (fun i j H2 => Q (.int (i + j)) H2) σ H
def tSub (ta tb : TE) : TE := fun σ H Q => t2I ta tb (fun i j H2 => Q (.int (i - j)) H2) σ H
/-- the left factor below 2^64 -/
def tMul (ta tb : TE) : TE := fun σ H Q => t2I ta tb (fun i j H2 => (-(2 ^ 64) < i ∧ i < 2 ^ 64) ∧ Q (.int (i * j)) H2) σ H
variable {a b : Expr} {ta tb : TE} {pos : Pos}
/-! ### comparisons -/
def PC (X : Cx) (op : CmpOp) (a b : Expr) (t : TE) : Prop :=
  ∀ (pins : List (Addr × Obj)) (s : Shared) (σ : St) (H : Hp) (Q : VK), Inv X pins σ H s → t σ H Q →
    wpAny (model X.prog X.w) X.A (eval a X.env) (fun v s₁ => wpAny (model X.prog X.w) X.A (eval b X.env) (fun u s₂ => wpAny (model X.prog X.w) X.A (compareOp op v u) (EP X pins σ Q) X.xe s₂) X.xe s₁) X.xe s
theorem nobehind (b : Expr) {op : CmpOp} (h : op ≠ .In) (h2 : op ≠ .NotIn) : behindInMarks op b = false := by
  have e1 : (op == CmpOp.In) = false := by cases op <;> first | rfl | exact absurd rfl h
  have e2 : (op == CmpOp.NotIn) = false := by cases op <;> first | rfl | exact absurd rfl h2
  cases b <;> simp [behindInMarks, e1, e2]
def tCmp (p : Int → Int → Bool) (ta tb : TE) : TE := fun σ H Q => t2I ta tb (fun i j H2 => Q (.bl (p i j)) H2) σ H
abbrev tLt : TE → TE → TE := tCmp fun i j => decide (i < j)
abbrev tLe : TE → TE → TE := tCmp fun i j => decide (i ≤ j)
abbrev tGt : TE → TE → TE := tCmp fun i j => decide (j < i)
abbrev tGe : TE → TE → TE := tCmp fun i j => decide (j ≤ i)
abbrev tEqI : TE → TE → TE := tCmp fun i j => decide (i = j)
abbrev tNeI : TE → TE → TE := tCmp fun i j => !decide (i = j)
/-- is None -/
def tIsN (ta : TE) : TE := fun σ H Q => ta σ H fun x H1 => Q (.bl (decide (x = .non))) H1
def tNotN (ta : TE) : TE := fun σ H Q => ta σ H fun x H1 => Q (.bl (!decide (x = .non))) H1
theorem RelV.none_iff {x : V} {v : Value} (r : RelV x v) : (v == Value.none) = decide (x = .non) := by
  cases x with
  | non => cases r; rfl
  | bl _ => cases r; rfl
  | int _ => obtain ⟨t, rfl⟩ := r; rfl
  | str _ => obtain ⟨t, rfl⟩ := r; rfl
  | byt _ => obtain ⟨t, rfl⟩ := r; rfl
  | flt _ => obtain ⟨t, rfl⟩ := r; rfl
  | ref _ => cases r; rfl
  | ty _ => cases r; rfl
theorem pc_isN {j pos'} (ha : PE X a ta) : PC X .Is a (.Constant .none j pos') (tIsN ta) := by
  intro pins s σ H Q I h
  refine thn (ha pins s σ H _ I h) fun v s1 ⟨x, H1, I1, r1, q1⟩ => ?_
  exact Constant_none (is_none_gen ⟨.bl _, H1, I1, by rw [r1.none_iff]; rfl, q1⟩)
/-- a comparison as a value, as a test -/
def tB (t : TE) : TT := fun σ H Q => t σ H fun x H1 => ∃ c, x = .bl c ∧ Q c H1
theorem pt_cmp {op : CmpOp} {t : TE} (h : PC X op a b t) (h1 : behindInMarks op b = false := by first | exact nobehind _ (by decide) (by decide) | rfl) : PT X (.Compare a [op] [b] pos) (tB t) := by
  intro pins s σ H Q I hw
  refine wpAny_isTrue_Compare1 (thn (h pins s σ H _ I hw) fun v s1 h1 => thn h1 fun u s2 h2 => thn h2 fun c s3 ⟨x, H1, I1, r1, q1⟩ => ?_) h1
  obtain ⟨d, rfl, q⟩ := q1
  cases r1
  exact wpAny_truthy_bool ⟨H1, I1, q⟩
/-- an expression whose value is a bool, as a test -/
theorem pt_val {e : Expr} {t : TE} (h : PE X e t) (he : ∀ whole, isTrue e X.env whole = (do let v ← whole; standAt e.pos; holding [v] (truthy v)) := by intro _; rfl) : PT X e (tB t) := by
  intro pins s σ H Q I hw
  refine isTrue_plain (thn (h pins s σ H _ I hw) fun v s1 ⟨x, H1, I1, r1, q1⟩ => ?_) (he _)
  obtain ⟨d, rfl, q⟩ := q1
  cases r1
  exact wpAny_truthy_bool ⟨H1, I1, q⟩

/-! ### and, or, not -/
variable {tA tB' : TT} {rest : List Expr}
def tAnd (t u : TT) : TT := fun σ H Q => t σ H fun c H1 => if c = true then u σ H1 Q else Q false H1
def tOr (t u : TT) : TT := fun σ H Q => t σ H fun c H1 => if c = true then Q true H1 else u σ H1 Q
def tNot (t : TT) : TT := fun σ H Q => t σ H fun c H1 => Q (!c) H1
theorem pw_and1 (ha : PT X a tA) : PW X (.BoolOp .And [a] pos) tA := by
  intro wh pins s σ H Q I h
  refine isTrue_and (thn (ha pins s σ H Q I h) fun c s1 e => ?_)
  cases c with
  | true => exact isTrue_and_nil e
  | false => exact e
theorem pw_or1 (ha : PT X a tA) : PW X (.BoolOp .Or [a] pos) tA := by
  intro wh pins s σ H Q I h
  refine isTrue_or (thn (ha pins s σ H Q I h) fun c s1 e => ?_)
  cases c with
  | false => exact isTrue_or_nil e
  | true => exact e
theorem pw_and (ha : PT X a tA) (hb : PW X (.BoolOp .And (b :: rest) pos) tB') : PW X (.BoolOp .And (a :: b :: rest) pos) (tAnd tA tB') := by
  intro wh pins s σ H Q I h
  refine isTrue_and (thn (ha pins s σ H _ I h) fun c s1 ⟨H1, I1, q1⟩ => ?_)
  cases c with
  | true => exact hb wh pins s1 σ H1 Q I1 q1
  | false => exact ⟨H1, I1, q1⟩
theorem pw_or (ha : PT X a tA) (hb : PW X (.BoolOp .Or (b :: rest) pos) tB') : PW X (.BoolOp .Or (a :: b :: rest) pos) (tOr tA tB') := by
  intro wh pins s σ H Q I h
  refine isTrue_or (thn (ha pins s σ H _ I h) fun c s1 ⟨H1, I1, q1⟩ => ?_)
  cases c with
  | true => exact ⟨H1, I1, q1⟩
  | false => exact hb wh pins s1 σ H1 Q I1 q1
theorem pt_not (ha : PT X a tA) : PT X (.UnaryOp .Not a pos) (tNot tA) := by
  intro pins s σ H Q I h
  exact isTrue_not (ha pins s σ H (fun c H1 => Q (!c) H1) I h)
/-- .. as values (bools) -/
def tAndV (ta tb : TE) : TE := fun σ H Q => ta σ H fun x H1 => ∃ c, x = .bl c ∧ if c = true then tb σ H1 Q else Q (.bl false) H1
def tOrV (ta tb : TE) : TE := fun σ H Q => ta σ H fun x H1 => ∃ c, x = .bl c ∧ if c = true then Q (.bl true) H1 else tb σ H1 Q
def tNotV (ta : TE) : TE := fun σ H Q => ta σ H fun x H1 => ∃ c, x = .bl c ∧ Q (.bl (!c)) H1
theorem pe_one {op} {t : TE} (h : PE X a t) : PE X (.BoolOp op [a] pos) t := fun pins s σ H Q I hw => BoolOp_one (h pins s σ H Q I hw)
theorem pe_and (ha : PE X a ta) (hb : PE X (.BoolOp .And (b :: rest) pos) tb) : PE X (.BoolOp .And (a :: b :: rest) pos) (tAndV ta tb) := by
  intro pins s σ H Q I h
  refine BoolOp_and (thn (ha pins s σ H _ I h) fun v s1 ⟨x, H1, I1, r1, q1⟩ => ?_)
  obtain ⟨c, rfl, q1⟩ := q1
  cases r1
  refine wpAny_truthy_bool ?_
  cases c with
  | true => exact hb pins s1 σ H1 Q I1 q1
  | false => exact ⟨.bl false, H1, I1, rfl, q1⟩
/-- a if t else b -/
def tIf (t : TT) (ta tb : TE) : TE := fun σ H Q => t σ H fun c H1 => if c = true then ta σ H1 Q else tb σ H1 Q
end
end L2

namespace L2
open PySem PySem.Spec PyProof.Rows

/-! ### a list, a tuple that is read: tracked, frozen, or an object of the module -/
def SqL (K : PySem.W.Frag) (H : Hp) (a : Addr) (xs : List V) : Prop :=
  Rd H a (.lst xs) ∨
    ∃ (o : Obj) (its : Array Value) (n : Nat), K.lookup a = some o ∧ o.cls = .type "list" ∧ o.dict = none ∧ o.data = .seq its n ∧ its.size ≤ sizeLine ∧ Vals xs its.toList
def SqT (K : PySem.W.Frag) (H : Hp) (a : Addr) (xs : List V) : Prop :=
  Rd H a (.tup xs) ∨
    ∃ (o : Obj) (its : Array Value) (n : Nat), K.lookup a = some o ∧ o.cls = .type "tuple" ∧ o.data = .seq its n ∧ its.size ≤ sizeLine ∧ Vals xs its.toList
def absV : Value → Option V
  | .none => some .non
  | .bool b => some (.bl b)
  | .int i _ => some (.int i)
  | .str x _ => some (.str x)
  | .bytes b _ => some (.byt b)
  | .float b _ => some (.flt b)
  | .ref a => some (.ref a)
  | .type n => some (.ty n)
  | _ => none
theorem RelV.abs {x : V} {u : Value} (r : RelV x u) : absV u = some x := by
  cases x with
  | non => cases r; rfl
  | bl _ => cases r; rfl
  | int _ => obtain ⟨t, rfl⟩ := r; rfl
  | str _ => obtain ⟨t, rfl⟩ := r; rfl
  | byt _ => obtain ⟨t, rfl⟩ := r; rfl
  | flt _ => obtain ⟨t, rfl⟩ := r; rfl
  | ref _ => cases r; rfl
  | ty _ => cases r; rfl
theorem RelV.inj {x y : V} {u : Value} (r : RelV x u) (q : RelV y u) : x = y := Option.some.inj (r.abs.symm.trans q.abs)
theorem Vals.inj : ∀ {xs ys : List V} {us : List Value}, Vals xs us → Vals ys us → xs = ys
  | _, _, _, .nil, .nil => rfl
  | _, _, _, .cons r t, .cons r' t' => by rw [r.inj r', Vals.inj t t']
section
variable {X : Cx} {pins : List (Addr × Obj)} {σ : St} {H : Hp} {s : Shared} {a : Addr} {xs ys : List V}
theorem SqL.of {K : PySem.W.Frag} (h : H a = some (.lst xs)) : SqL K H a xs := .inl (.inl h)
theorem SqT.of {K : PySem.W.Frag} (h : H a = some (.tup xs)) : SqT K H a xs := .inl (.inl h)
theorem Inv.list (I : Inv X pins σ H s) (h : SqL X.K H a xs) : ∃ its : List Value, Vals xs its ∧ PlainL s.heap a its.toArray ∧ xs.length ≤ sizeLine := by
  rcases h with h | ⟨o, its, n, hk, hc, hd, hs, hz, r⟩
  · obtain ⟨z, its, n, r, e⟩ := h.ok I.hok
    exact ⟨its, r, ⟨_, n, e, rfl, rfl, rfl⟩, z⟩
  · refine ⟨its.toList, r, ⟨o, n, I.kIn a o hk, hc, hd, by simpa using hs⟩, ?_⟩
    have e := r.length
    simp only [Array.length_toList] at e
    omega
theorem Inv.tuple (I : Inv X pins σ H s) (h : SqT X.K H a xs) : ∃ its : List Value, Vals xs its ∧ IsTup s.heap a its.toArray ∧ xs.length ≤ sizeLine := by
  rcases h with h | ⟨o, its, n, hk, hc, hs, hz, r⟩
  · obtain ⟨z, its, r, p⟩ := h.ok I.hok
    exact ⟨its, r, p, z⟩
  · refine ⟨its.toList, r, ⟨o, I.kIn a o hk, hc, n, by simpa using hs⟩, ?_⟩
    have e := r.length
    simp only [Array.length_toList] at e
    omega
theorem Inv.list_inj (I : Inv X pins σ H s) (h : SqL X.K H a xs) (h' : SqL X.K H a ys) : xs = ys := by
  obtain ⟨its, r, ⟨o, n, e, _, _, d⟩, _⟩ := I.list h
  obtain ⟨its', r', ⟨o', n', e', _, _, d'⟩, _⟩ := I.list h'
  rw [e] at e'; cases e'
  rw [d] at d'
  injection d' with d1 _
  have : its = its' := by simpa using congrArg Array.toList d1
  subst this
  exact r.inj r'
theorem Inv.tuple_inj (I : Inv X pins σ H s) (h : SqT X.K H a xs) (h' : SqT X.K H a ys) : xs = ys := by
  obtain ⟨its, r, ⟨o, e, _, n, d⟩, _⟩ := I.tuple h
  obtain ⟨its', r', ⟨o', e', _, n', d'⟩, _⟩ := I.tuple h'
  rw [e] at e'; cases e'
  rw [d] at d'
  injection d' with d1 _
  have : its = its' := by simpa using congrArg Array.toList d1
  subst this
  exact r.inj r'
end

/-! ### another wish about exceptions -/
abbrev Cx.wish (X : Cx) (E : Value → Shared → Prop) : Cx := { X with xe := E }
/-- no exception leaves -/
abbrev Cx.nox (X : Cx) : Cx := X.wish fun _ _ => False
theorem Cx.Ok.wish {X : Cx} (ok : X.Ok) (E : Value → Shared → Prop) : (X.wish E).Ok :=
  ⟨ok.mod, ok.kind, ok.glob, ok.blt, ok.above, ok.inj, ok.has, ok.cab, ok.hd, ok.frames, ok.stk, ok.exf, ok.bs, ok.bsz, ok.noex, ok.exfs, ok.funs, ok.frf⟩
theorem Cx.Ok.unwish {X : Cx} {E : Value → Shared → Prop} (ok : (X.wish E).Ok) : X.Ok :=
  ⟨ok.mod, ok.kind, ok.glob, ok.blt, ok.above, ok.inj, ok.has, ok.cab, ok.hd, ok.frames, ok.stk, ok.exf, ok.bs, ok.bsz, ok.noex, ok.exfs, ok.funs, ok.frf⟩
section
variable {X : Cx} {pins : List (Addr × Obj)} {σ : St} {H : Hp} {s : Shared} {E : Value → Shared → Prop}
theorem Inv.wish (I : Inv X pins σ H s) (E : Value → Shared → Prop) : Inv (X.wish E) pins σ H s := ⟨I.ok.wish E, I.os, I.bare, I.base, I.loc, I.cell, I.free, I.freeC, I.pin, I.hok, I.len⟩
theorem Inv.unwish (I : Inv (X.wish E) pins σ H s) : Inv X pins σ H s := ⟨I.ok.unwish, I.os, I.bare, I.base, I.loc, I.cell, I.free, I.freeC, I.pin, I.hok, I.len⟩
theorem SP.unwish {D : Ends} {f : Flow} {s' : Shared} (h : SP (X.wish E) pins D f s') : SP X pins D f s' := by
  cases f with
  | next => obtain ⟨σ', H', I, q⟩ := h; exact ⟨σ', H', I.unwish, q⟩
  | brk => obtain ⟨σ', H', I, q⟩ := h; exact ⟨σ', H', I.unwish, q⟩
  | cont => obtain ⟨σ', H', I, q⟩ := h; exact ⟨σ', H', I.unwish, q⟩
  | ret u => obtain ⟨v, σ', H', I, r, q⟩ := h; exact ⟨v, σ', H', I.unwish, r, q⟩
theorem PSs.nox {st : List Stmt} {t : TS} (h : PSs X.nox st t) : PSs X st t := fun pins s σ H D I hw =>
  wpAny_mono (h pins s σ H D (I.wish _) hw) (fun _ _ q => q.unwish) fun _ _ z => False.elim z
end

/-! ### blocks and small statements -/
section
variable {X : Cx} {st : Stmt} {rest : List Stmt} {t u : TS} {e : Expr} {te : TE} {pos : Pos}
def tNext : TS := fun D σ H => D.nx σ H
def tSeq (t u : TS) : TS := fun D σ H => t { D with nx := u D } σ H
theorem pss_nil : PSs X [] tNext := fun _ _ σ H _ I h => wpAny_execs_nil ⟨σ, H, I, h⟩
theorem pss_cons (h1 : PS X st t) (h2 : PSs X rest u) : PSs X (st :: rest) (tSeq t u) := by
  intro pins s σ H D I h
  refine wpAny_execs_cons (thn (h1 pins s σ H { D with nx := u D } I h) fun f s1 q => ?_)
  cases f with
  | next =>
    obtain ⟨σ', H', I', q⟩ := q
    exact h2 pins s1 σ' H' D I' q
  | ret v => exact q
  | brk => exact q
  | cont => exact q
theorem pss_one (h1 : PS X st t) : PSs X [st] t := by
  intro pins s σ H D I h
  refine wpAny_execs_cons (thn (h1 pins s σ H D I h) fun f s1 q => ?_)
  cases f with
  | next => exact wpAny_execs_nil q
  | ret v => exact q
  | brk => exact q
  | cont => exact q
def tBreak : TS := fun D σ H => D.bk σ H
def tCont : TS := fun D σ H => D.ct σ H
/-- in a def's body nothing is shown -/
theorem Inv.quiet {pins : List (Addr × Obj)} {σ : St} {H : Hp} {s : Shared} (I : Inv X pins σ H s) : interactive X.env = false := by simp [interactive, I.ok.kind]
/-- an expression whose value is dropped -/
def tDrop (te : TE) : TS := fun D σ H => te σ H fun _ H1 => D.nx σ H1
theorem ps_expr (he : PE X e te) (hs : swapsWith e none pos.line X.env = pure false := by rfl) : PS X (.Expr e pos) (tDrop te) := by
  intro pins s σ H D I h
  exact wpAny_Expr_any (thn (he pins s σ H _ I h) fun v s1 ⟨x, H1, I1, r1, q1⟩ => ⟨σ, H1, I1, q1⟩) I.quiet hs
def tRet (te : TE) : TS := fun D σ H => te σ H D.rt
theorem ps_ret (he : PE X e te) : PS X (.Return (some e) pos) (tRet te) := by
  intro pins s σ H D I h
  exact wpAny_Return_some (thn (he pins s σ H _ I h) fun v s1 ⟨x, H1, I1, r1, q1⟩ => ⟨x, σ, H1, I1, r1, q1⟩)
def tRetN : TS := fun D _ H => D.rt .non H
def tIfS (c : TT) (t u : TS) : TS := fun D σ H => c σ H fun b H1 => if b = true then t D σ H1 else u D σ H1
theorem ps_if {c : Expr} {a b : List Stmt} {tc : TT} (hc : PT X c tc) (ha : PSs X a t) (hb : PSs X b u) : PS X (.If c a b pos) (tIfS tc t u) := by
  intro pins s σ H D I h
  refine wpAny_If (thn (hc pins s σ H _ I h) fun d s1 ⟨H1, I1, q1⟩ => ?_)
  cases d with
  | true => exact ha pins s1 σ H1 D I1 q1
  | false => exact hb pins s1 σ H1 D I1 q1
/-- code that the proof never comes to -/
def tNever : TS := fun _ _ _ => False
end

/-! ### targets -/
abbrev TG := V → St → Hp → (St → Hp → Prop) → Prop
abbrev TGs := List V → St → Hp → (St → Hp → Prop) → Prop
def PG (X : Cx) (target : Expr) (t : TG) : Prop :=
  ∀ (pins : List (Addr × Obj)) (s : Shared) (σ : St) (H : Hp) (v : V) (u : Value) (Q : St → Hp → Prop), Inv X pins σ H s → RelV v u → t v σ H Q →
    wpAny (model X.prog X.w) X.A (assign target X.env u) (fun _ s' => ∃ σ' H', Inv X pins σ' H' s' ∧ Q σ' H') X.xe s
/-- several targets, one after another -/
def PGs (X : Cx) (ts : List Expr) (t : TGs) : Prop :=
  ∀ (pins : List (Addr × Obj)) (s : Shared) (σ : St) (H : Hp) (vs : List V) (us : List Value) (Q : St → Hp → Prop), Inv X pins σ H s → Vals vs us → t vs σ H Q →
    wpAny (model X.prog X.w) X.A (assignInOrder ((assignEach ts X.env).map (·.2)) us) (fun _ s' => ∃ σ' H', Inv X pins σ' H' s' ∧ Q σ' H') X.xe s
/-- o[i] = v, by values -/
abbrev TSet := V → V → V → Hp → (Hp → Prop) → Prop
def PSet (X : Cx) (t : TSet) : Prop :=
  ∀ (pins : List (Addr × Obj)) (s : Shared) (σ : St) (H : Hp) (o i v : V) (ov iv u : Value) (Q : Hp → Prop), Inv X pins σ H s → RelV o ov → RelV i iv → RelV v u → t o i v H Q →
    wpAny (model X.prog X.w) X.A (setItem ov iv u) (fun _ s' => ∃ H', Inv X pins σ H' s' ∧ Q H') X.xe s
/-- a op= b, by values -/
abbrev TIp := V → V → Hp → VK → Prop
def PIp (X : Cx) (op : Operator) (t : TIp) : Prop :=
  ∀ (pins : List (Addr × Obj)) (s : Shared) (σ : St) (H : Hp) (x y : V) (v u : Value) (Q : VK), Inv X pins σ H s → RelV x v → RelV y u → t x y H Q →
    wpAny (model X.prog X.w) X.A (inplaceOp op v u) (EP X pins σ Q) X.xe s
section
variable {X : Cx} {pos : Pos}
def gName (i : Nat) : TG := fun v σ H Q => Q (σ.set i (some v)) H
theorem pg_name {i : Nat} {x : Str} (hN : X.N.Nodup) (hi : X.N[i]? = some x) (hx : Loc X.env.scope x) (hf : X.fn x = true ∨ X.env.scope.names.lookup x = some .local := by first | exact .inl rfl | exact .inr rfl | assumption) : PG X (.Name x pos) (gName i) := by
  intro pins s σ H v u Q I r h
  exact wpAny_assign_Name (store_ok I hN hi hx r (fun s' I' => ⟨_, H, I', h⟩) hf)
def gNil : TGs := fun vs σ H Q => vs = [] ∧ Q σ H
def gCons (t : TG) (u : TGs) : TGs := fun vs σ H Q => ∃ v r, vs = v :: r ∧ t v σ H fun σ' H' => u r σ' H' Q
theorem pgs_nil : PGs X [] gNil := by
  intro pins s σ H vs us Q I r h
  obtain ⟨e, h⟩ := h
  subst e
  cases r
  exact assignInOrder_nil ⟨σ, H, I, h⟩
theorem pgs_cons {e : Expr} {es : List Expr} {t : TG} {u : TGs} (h1 : PG X e t) (h2 : PGs X es u)
    (hs : (assignEach (e :: es) X.env).map (·.2) = assign e X.env :: (assignEach es X.env).map (·.2) := by rfl) : PGs X (e :: es) (gCons t u) := by
  intro pins s σ H vs us Q I r h
  obtain ⟨v, vr, e1, h⟩ := h
  subst e1
  cases r with
  | cons r rr =>
    rw [hs]
    refine assignInOrder_cons (thn (h1 pins s σ H _ _ _ I r h) fun _ s1 ⟨σ1, H1, I1, q1⟩ => ?_)
    exact h2 pins s1 σ1 H1 _ _ Q I1 rr q1
/-- (a, b, ..) = a tuple of that length -/
def gTup (K : PySem.W.Frag) (n : Nat) (t : TGs) : TG := fun v σ H Q => ∃ a xs, v = .ref a ∧ SqT K H a xs ∧ xs.length = n ∧ t xs σ H Q
theorem pg_tup {es : List Expr} {k : Nat} {t : TGs} {n : Nat} (hc : X.calm = true) (h : PGs X es t)
    (hn : (assignEach es X.env).length = n := by rfl) (hst : (assignEach es X.env).findIdx? (·.1) = none := by rfl) : PG X (.Tuple es k pos) (gTup X.K n t) := by
  intro pins s σ H v u Q I r hw
  obtain ⟨a, xs, e1, hq, hl, hw⟩ := hw
  subst e1
  cases r
  obtain ⟨its, rv, ht, hz⟩ := I.tuple hq
  refine assign_Tuple_tuple (I.ok.hd hc) ht (by simp [hn, ← hl, rv.length]) hst fun h' hx => ?_
  have I1 : Inv X pins σ H { s with heap := h' } := I.kept (t' := s.toks) fun b o e => hx b o (Nat.ne_of_lt (Heap.lt_size e)) e
  exact h pins _ σ H xs _ Q I1 (by simpa using rv) hw
/-- o[i] = .. -/
def gSub (to ti : TE) (t : TSet) : TG := fun v σ H Q => to σ H fun o H1 => ti σ H1 fun i H2 => t o i v H2 fun H3 => Q σ H3
theorem pg_sub {o i : Expr} {to ti : TE} {t : TSet} (ho : PE X o to) (hi : PE X i ti) (hs : PSet X t)
    (ha : ∀ v, assign (.Subscript o i pos) X.env v = (do
      let ov ← holding [v] (eval o X.env)
      let iv ← holding [v, ov] (eval i X.env)
      standAt pos
      holding [v, ov, iv] (setItem ov iv v)
      release [v, ov, iv] []) := by intro _; rfl) : PG X (.Subscript o i pos) (gSub to ti t) := by
  intro pins s σ H v u Q I r h
  rw [ha]
  refine wpAny_bind (wpAny_holding (thn (ho pins s σ H _ I h) fun ov s1 ⟨x, H1, I1, r1, q1⟩ => ?_))
  refine wpAny_bind (wpAny_holding (thn (hi pins s1 σ H1 _ I1 q1) fun iv s2 ⟨y, H2, I2, r2, q2⟩ => ?_))
  refine wpAny_bind (wpAny_standAt (wpAny_bind (wpAny_holding (thn (hs pins s2 σ H2 x y v ov iv u _ I2 r1 r2 r q2) fun _ s3 ⟨H3, I3, q3⟩ => ?_))))
  exact wpAny_release ⟨σ, H3, I3, q3⟩
/-- target = value -/
def tAsg (te : TE) (g : TG) : TS := fun D σ H => te σ H fun x H1 => g x σ H1 D.nx
theorem ps_asg {tg e : Expr} {te : TE} {g : TG} (he : PE X e te) (hg : PG X tg g) (hs : swapsWithSole [tg] e pos.line X.env = pure false := by rfl) (hw : swappedStores [tg] e X.env = pure none := by rfl)
    (h1 : (assignEach [tg] X.env).map (·.2) = [assign tg X.env] := by rfl) : PS X (.Assign [tg] e pos) (tAsg te g) := by
  intro pins s σ H D I h
  refine wpAny_Assign_stores (thn (he pins s σ H _ I h) fun v s1 ⟨x, H1, I1, r1, q1⟩ => ?_) hs hw
  rw [h1]
  exact thn (hg pins s1 σ H1 x v _ I1 r1 q1) fun _ s2 q => q
/-- name = value -/
theorem ps_set {i : Nat} {x : Str} {e : Expr} {te : TE} {pos' : Pos} (hN : X.N.Nodup) (hi : X.N[i]? = some x) (hx : Loc X.env.scope x) (he : PE X e te) (hs : swapsWith e (some (.Name x pos')) pos.line X.env = pure false := by rfl) (hf : X.fn x = true ∨ X.env.scope.names.lookup x = some .local := by first | exact .inl rfl | exact .inr rfl | assumption) :
    PS X (.Assign [.Name x pos'] e pos) (tAsg te (gName i)) := by
  intro pins s σ H D I h
  refine wpAny_Assign_Name (thn (he pins s σ H _ I h) fun v s1 ⟨y, H1, I1, r1, q1⟩ => ?_) hs
  exact store_ok I1 hN hi hx r1 (fun s2 I2 => ⟨_, H1, I2, q1⟩) hf
/-- a, b = x, y with plain local names: stored from the right; the pair itself is not tracked (the opening rows as in PyProof/Rows/TupAssign.lean:23) -/
def tPar (i j : Nat) (ta : TA) : TS := fun D σ H => ta σ H fun vs H1 => ∃ v w, vs = [v, w] ∧ D.nx ((σ.set i (some v)).set j (some w)) H1
/-- name op= e -/
def tAug (i : Nat) (te : TE) (ti : TIp) : TS := fun D σ H => ∃ x, σ[i]? = some (some x) ∧ te σ H fun y H1 => ti x y H1 fun z H2 => D.nx (σ.set i (some z)) H2
theorem ps_aug {i : Nat} {x : Str} {e : Expr} {te : TE} {op : Operator} {ti : TIp} {pos' : Pos} (hN : X.N.Nodup) (hi : X.N[i]? = some x) (hx : Loc X.env.scope x) (he : PE X e te) (ho : PIp X op ti) (hf : X.fn x = true ∨ X.env.scope.names.lookup x = some .local := by first | exact .inl rfl | exact .inr rfl | assumption) :
    PS X (.AugAssign (.Name x pos') op e pos) (tAug i te ti) := by
  intro pins s σ H D I h
  obtain ⟨v, e1, h⟩ := h
  obtain ⟨m, hn, hl⟩ := I.loc
  have vis : Vis X.env.scope x := by rcases hx with k | k; exact .inl k; exact .inr (.inl k)
  obtain ⟨u, r, l⟩ := hl i x v hi e1 vis
  refine wpAny_AugAssign_Name ?_
  have go : wpAny (model X.prog X.w) X.A (eval e X.env) (fun w s₂ => wpAny (model X.prog X.w) X.A (inplaceOp op u w) (fun r s₃ => wpAny (model X.prog X.w) X.A (storeName X.env x r) (fun _ => SP X pins D .next) X.xe s₃) X.xe s₂) X.xe s := by
    refine thn (he pins s σ H _ I h) fun w s1 ⟨y, H1, I1, r1, q1⟩ => ?_
    refine thn (ho pins s1 σ H1 v y u w _ I1 r r1 q1) fun z s2 ⟨zv, H2, I2, r2, q2⟩ => ?_
    exact store_ok I2 hN hi hx r2 (fun s3 I3 => ⟨_, H2, I3, q2⟩) hf
  rcases l with ⟨hk, hm⟩ | ⟨hk, c, hc, hcell⟩
  · exact wpAny_loadName_local I.ok.kind hk hn hm go
  · rcases hk with hk | hk
    · exact wpAny_loadName_cell I.ok.kind hk hc hcell go
    · rcases hx with k | k
      · have : X.env.scope.names.lookup x = some .free := hk
        rw [k] at this; cases this
      · have : X.env.scope.names.lookup x = some .free := hk
        rw [k] at this; cases this
/-- o[i] op= e -/
def tAugS (to ti te : TE) (tget : V → V → Hp → VK → Prop) (tip : TIp) (tset : TSet) : TS := fun D σ H => to σ H fun o H1 => ti σ H1 fun i H2 => tget o i H2 fun x H3 => te σ H3 fun y H4 => tip x y H4 fun z H5 => tset o i z H5 fun H6 => D.nx σ H6
/-- o[i], by values -/
def PGet (X : Cx) (t : V → V → Hp → VK → Prop) : Prop :=
  ∀ (pins : List (Addr × Obj)) (s : Shared) (σ : St) (H : Hp) (o i : V) (ov iv : Value) (Q : VK), Inv X pins σ H s → RelV o ov → RelV i iv → t o i H Q →
    wpAny (model X.prog X.w) X.A (getItem ov iv) (EP X pins σ Q) X.xe s
theorem ps_augS {o i e : Expr} {to ti te : TE} {tget : V → V → Hp → VK → Prop} {tip : TIp} {tset : TSet} {op : Operator} {tpos : Pos} (ho : PE X o to) (hi : PE X i ti) (hg : PGet X tget) (he : PE X e te) (hp : PIp X op tip) (hs : PSet X tset)
    (ha : ∀ ov iv new, augStore i ov iv new = (do holding [new, ov, iv] (setItem ov iv new); release [new, ov, iv] []; pure .next) := by intros; rfl) : PS X (.AugAssign (.Subscript o i tpos) op e pos) (tAugS to ti te tget tip tset) := by
  intro pins s σ H D I h
  refine wpAny_AugAssign_SubscriptAny (thn (ho pins s σ H _ I h) fun ov s1 ⟨x1, H1, I1, r1, q1⟩ => ?_) ha
  refine thn (hi pins s1 σ H1 _ I1 q1) fun iv s2 ⟨x2, H2, I2, r2, q2⟩ => ?_
  refine thn (hg pins s2 σ H2 x1 x2 ov iv _ I2 r1 r2 q2) fun old s3 ⟨x3, H3, I3, r3, q3⟩ => ?_
  refine thn (he pins s3 σ H3 _ I3 q3) fun v s4 ⟨x4, H4, I4, r4, q4⟩ => ?_
  refine thn (hp pins s4 σ H4 x3 x4 old v _ I4 r3 r4 q4) fun new s5 ⟨x5, H5, I5, r5, q5⟩ => ?_
  exact thn (hs pins s5 σ H5 x1 x2 x5 ov iv new _ I5 r1 r2 r5 q5) fun _ s6 ⟨H6, I6, q6⟩ => ⟨σ, H6, I6, q6⟩
/-- ints -/
def ipI (f : Int → Int → Int) : TIp := fun x y H Q => ∃ i j, x = .int i ∧ y = .int j ∧ Q (.int (f i j)) H
theorem ip_add : PIp X .Add (ipI fun i j => i + j) := by
  intro pins s σ H x y v u Q I r1 r2 h
  obtain ⟨i, j, e1, e2, q⟩ := h
  subst e1; subst e2
  obtain ⟨t, rfl⟩ := r1
  obtain ⟨t', rfl⟩ := r2
  exact iadd_int ⟨.int _, H, I.tok _, ⟨_, rfl⟩, q⟩
theorem ip_sub : PIp X .Sub (ipI fun i j => i - j) := by
  intro pins s σ H x y v u Q I r1 r2 h
  obtain ⟨i, j, e1, e2, q⟩ := h
  subst e1; subst e2
  obtain ⟨t, rfl⟩ := r1
  obtain ⟨t', rfl⟩ := r2
  exact isub_int ⟨.int _, H, I.tok _, ⟨_, rfl⟩, q⟩
end

/-! ### while -/
section
variable {X : Cx} {pos : Pos}
/-- the invariant W with its measure -/
def tWhile (c : TT) (tb : TS) : TS := fun D σ H => ∃ W : Nat → St → Hp → Prop, (∃ m, W m σ H) ∧ ∀ m σ H, W m σ H →
  c σ H fun b H1 => if b = true then ∃ N : St → Hp → Prop, (∀ σ' H', N σ' H' → ∃ m', m' < m ∧ W m' σ' H') ∧ tb { D with nx := N, ct := N, bk := D.nx } σ H1 else D.nx σ H1
theorem ps_while {c : Expr} {body : List Stmt} {tc : TT} {tb : TS} (hp : PassesOwn (model X.prog X.w) X.A X.env X.xe) (hc : PT X c tc) (hb : PSs X body tb) : PS X (.While c body [] pos) (tWhile tc tb) := by
  intro pins s σ H D I h
  obtain ⟨W, ⟨m0, w0⟩, turn⟩ := h
  refine wpAny_While (codeAny_whileLoop (fun n s' => ∃ σ' H', Inv X pins σ' H' s' ∧ W n σ' H') ?_ m0 ⟨σ, H, I, w0⟩)
  rintro n s1 ⟨σ1, H1, I1, w1⟩
  refine wpAny_passesOwn hp (thn (hc pins s1 σ1 H1 _ I1 (turn n σ1 H1 w1)) fun b s2 ⟨H2, I2, q2⟩ => ?_)
  cases b with
  | true =>
    obtain ⟨N, hN, q2⟩ := q2
    rw [if_pos rfl]
    refine wpAny_passesOwn hp (thn (hb pins s2 σ1 H2 _ I2 q2) fun f s3 q3 => ?_)
    cases f with
    | next =>
      obtain ⟨σ3, H3, I3, n3⟩ := q3
      obtain ⟨m', hm, w3⟩ := hN σ3 H3 n3
      exact ⟨m', hm, σ3, H3, I3, w3⟩
    | cont =>
      obtain ⟨σ3, H3, I3, n3⟩ := q3
      obtain ⟨m', hm, w3⟩ := hN σ3 H3 n3
      exact ⟨m', hm, σ3, H3, I3, w3⟩
    | brk => exact q3
    | ret v => exact q3
  | false =>
    rw [if_neg Bool.false_ne_true]
    exact wpAny_execs_nil ⟨σ1, H2, I2, q2⟩
end

/-! ### what a loop or a comprehension walks -/
/-- at turn i: it yields x (the heap may grow), or it stops -/
structure It where
  go : Nat → Hp → Prop
  yld : Nat → Hp → V → Hp → Prop
  stop : Nat → Hp → Prop
/-- the iterator's own objects may turn: they are not the frame's, not pinned, younger than the entry (or a comprehension's own) -/
def FpOk (X : Cx) (pins : List (Addr × Obj)) (H : Hp) (b : Addr) : Prop :=
  H b = none ∧ b ≠ X.env.locals ∧ b ∉ X.fs ∧ (b ∈ X.ex ∨ X.s_0.heap.objs.size ≤ b) ∧ (∀ x c, X.env.cells.lookup x = some c → c ≠ b) ∧ ∀ p ∈ X.pn ++ pins, p.1 ≠ b
theorem Inv.fpOk {X : Cx} {pins : List (Addr × Obj)} {σ : St} {H H' : Hp} {s : Shared} {b : Addr} (I : Inv X pins σ H s) (hb : s.heap.objs.size ≤ b) (hn : H' b = none) : FpOk X pins H' b := by
  refine ⟨hn, Nat.ne_of_gt (Nat.lt_of_lt_of_le I.lt hb), I.nofs hb, .inr (Nat.le_trans I.sz hb), fun x c e z => ?_, fun p hp z => ?_⟩
  · obtain ⟨v, q⟩ := I.cell x c e
    exact absurd (Nat.lt_of_lt_of_le q.lt (by rw [z]; exact hb)) (Nat.lt_irrefl _)
  · exact absurd (Nat.lt_of_lt_of_le (Heap.lt_size (I.pin p hp).1) (by rw [z]; exact hb)) (Nat.lt_irrefl _)
structure Turn (P : Program) (w : World) (K : PySem.W.Frag) (tg : Expr) (J : It) (fp : List Addr) (it : Addr) (tn : Nat → Heap → Prop) : Prop where
  mem : it ∈ fp
  obj : ∀ i h, tn i h → ∀ b ∈ fp, ∃ o, h.get? b = some o ∧ ∀ v, o.data ≠ .cell v
  keep : ∀ i h h', tn i h → (∀ b ∈ fp, ∀ o, h.get? b = some o → h'.get? b = some o) → tn i h'
  item : ∀ (X : Cx), X.prog = P → X.w = w → X.K = K → X.calm = true → ∀ (i : Nat) (pins : List (Addr × Obj)) (s : Shared) (σ : St) (H : Hp) (E : Value → Shared → Prop), Inv X pins σ H s → (∀ b ∈ fp, FpOk X pins H b) → tn i s.heap → J.go i H →
    wpAny (model P w) X.A (pyNext (.ref it)) (fun r s1 => ∃ u, r = some u ∧
      wpAny (model P w) X.A (letOwnedTupleGo tg (.ref it) u) (fun _ s2 => ∃ x H', Inv X pins σ H' s2 ∧ RelV x u ∧ J.yld i H x H' ∧ tn (i + 1) s2.heap ∧ ∀ b ∈ fp, H' b = none) E s1) E s
  done : ∀ (X : Cx), X.prog = P → X.w = w → X.K = K → X.calm = true → ∀ (i : Nat) (pins : List (Addr × Obj)) (s : Shared) (σ : St) (H : Hp) (E : Value → Shared → Prop), Inv X pins σ H s → (∀ b ∈ fp, FpOk X pins H b) → tn i s.heap → J.stop i H →
    wpAny (model P w) X.A (pyNext (.ref it)) (fun r s1 => r = none ∧ Inv X pins σ H s1) E s
  self : ∀ (A : Around) (i : Nat) (s : Shared) (Q : Value → Shared → Prop) (E : Value → Shared → Prop), tn i s.heap → Q (.ref it) s → wpAny (model P w) A (pyIter (.ref it)) Q E s
abbrev TI := St → Hp → (It → Hp → Prop) → Prop
/-- an iterator has come -/
def PIE (X : Cx) (pins : List (Addr × Obj)) (σ : St) (tg : Expr) (R : It → Hp → Prop) (itv : Value) (s2 : Shared) : Prop :=
  ∃ (it : Addr) (fp : List Addr) (tn : Nat → Heap → Prop) (J : It) (H' : Hp), itv = .ref it ∧ Inv X pins σ H' s2 ∧ Turn X.prog X.w X.K tg J fp it tn ∧ tn 0 s2.heap ∧ (∀ b ∈ fp, FpOk X pins H' b) ∧ R J H'
def PI (X : Cx) (tg iter : Expr) (wi : TI) : Prop :=
  ∀ (pins : List (Addr × Obj)) (s : Shared) (σ : St) (H : Hp) (R : It → Hp → Prop), Inv X pins σ H s → wi σ H R →
    wpAny (model X.prog X.w) X.A (eval iter X.env) (fun v s1 => wpAny (model X.prog X.w) X.A (pyIter v) (PIE X pins σ tg R) X.xe s1) X.xe s

/-- the step ahead of the store is nothing for an iterator that keeps no tuple -/
theorem go_of {M : Model} {A : Around} {E : Value → Shared → Prop} {s : Shared} {tg : Expr} {it : Addr} {u : Value} {o : Obj} {n : String} {vs : Array Value} {Q : Unit → Shared → Prop} (ho : s.heap.get? it = some o) (hc : o.cls = .type n) (hd : o.data = .fields vs)
    (hn : ["enumerate", "zip", "dict_itemiterator", "dict_reverseitemiterator", "odict_iterator", "itertools.zip_longest", "itertools.pairwise"].contains n = false) (hQ : Q () s) : wpAny M A (letOwnedTupleGo tg (.ref it) u) Q E s := by
  unfold letOwnedTupleGo
  cases tg <;> first
    | exact wpAny_pure hQ
    | (cases u <;> first
        | exact wpAny_pure hQ
        | (refine wpAny_bind (wpAny_load ho ?_)
           rw [hc, hd]
           show wpAny M A (if (["enumerate", "zip", "dict_itemiterator", "dict_reverseitemiterator", "odict_iterator", "itertools.zip_longest", "itertools.pairwise"].contains n && vs[0]? == some (rawInt _)) = true then _ else _) Q E s
           rw [if_neg (by intro h; rw [hn, Bool.false_and] at h; cases h)]
           exact wpAny_pure hQ))

/-- the list at a, as it stands at each turn (a loop may append to it) -/
def Itl (K : PySem.W.Frag) (a : Addr) : It :=
  ⟨fun i H => ∃ xs x, SqL K H a xs ∧ xs[i]? = some x, fun i H x H' => H' = H ∧ ∀ xs, SqL K H a xs → xs[i]? = some x, fun i H => ∃ xs, SqL K H a xs ∧ xs.length ≤ i⟩
def Itt (K : PySem.W.Frag) (a : Addr) : It :=
  ⟨fun i H => ∃ xs x, SqT K H a xs ∧ xs[i]? = some x, fun i H x H' => H' = H ∧ ∀ xs, SqT K H a xs → xs[i]? = some x, fun i H => ∃ xs, SqT K H a xs ∧ xs.length ≤ i⟩
/-- lo, lo + 1, .. (n of them) -/
def Itr (lo : Int) (n : Nat) : It := ⟨fun i _ => i < n, fun i H x H' => H' = H ∧ x = .int (lo + i), fun i _ => n ≤ i⟩
theorem turn_list {P : Program} {w : World} {K : PySem.W.Frag} {tg : Expr} (a it : Addr) : Turn P w K tg (Itl K a) [it] it (fun i h => h.IsListIter it a i) where
  mem := by simp
  obj := fun i h st b hb => by
    have e : b = it := by simpa using hb
    subst e
    obtain ⟨o, e, c, d⟩ := st
    exact ⟨o, e, fun v z => by rw [d] at z; cases z⟩
  keep := fun i h h' st k => st.at fun o e => k it (by simp) o e
  item := by
    intro X hP hw hK hc i pins s σ H E I hf st hg
    subst hP hw hK
    obtain ⟨xs, x, hq, hx⟩ := hg
    obtain ⟨its, rv, p, hz⟩ := I.list hq
    obtain ⟨u, hu, ru⟩ := rv.get hx
    obtain ⟨f0, f1, f2, f3, f4, f5⟩ := hf it (by simp)
    refine wpAny_pyNext_list_item st p.isList (x := u) (by simpa using hu) fun h' st' sb => ?_
    have I1 : Inv X pins σ H { s with heap := h' } := I.turned (t' := s.toks) (fun b o hb e => (sb.2 b hb).trans e) f0 f1 f3 f4 f5
    obtain ⟨o, e, c, d⟩ := id st'
    exact ⟨u, rfl, go_of (s := { s with heap := h' }) e c d (by decide) ⟨x, H, I1, ru, ⟨rfl, fun ys hy => by rw [I.list_inj hy hq]; exact hx⟩, st', fun b hb => (hf b hb).1⟩⟩
  done := by
    intro X hP hw hK hc i pins s σ H E I hf st hg
    subst hP hw hK
    obtain ⟨xs, hq, hx⟩ := hg
    obtain ⟨its, rv, p, hz⟩ := I.list hq
    obtain ⟨f0, f1, f2, f3, f4, f5⟩ := hf it (by simp)
    have hl := rv.length
    exact wpAny_pyNext_list_end (I.ok.hd hc) st p.isList (by simp; omega) fun h' eb => ⟨rfl, I.turned (t' := s.toks) (fun b o hb e => eb b o hb e) f0 f1 f3 f4 f5⟩
  self := fun _ _ _ _ _ st h => wpAny_pyIter_listiter st h
theorem turn_tuple {P : Program} {w : World} {K : PySem.W.Frag} {tg : Expr} (a it : Addr) : Turn P w K tg (Itt K a) [it] it (fun i h => h.IsTupleIter it a i) where
  mem := by simp
  obj := fun i h st b hb => by
    have e : b = it := by simpa using hb
    subst e
    obtain ⟨o, e, c, d⟩ := st
    exact ⟨o, e, fun v z => by rw [d] at z; cases z⟩
  keep := fun i h h' st k => st.at fun o e => k it (by simp) o e
  item := by
    intro X hP hw hK hc i pins s σ H E I hf st hg
    subst hP hw hK
    obtain ⟨xs, x, hq, hx⟩ := hg
    obtain ⟨its, rv, p, hz⟩ := I.tuple hq
    obtain ⟨u, hu, ru⟩ := rv.get hx
    obtain ⟨f0, f1, f2, f3, f4, f5⟩ := hf it (by simp)
    refine wpAny_pyNext_tuple_item st (show s.heap.IsTuple a its.toArray from p) (x := u) (by simpa using hu) fun h' st' sb => ?_
    have I1 : Inv X pins σ H { s with heap := h' } := I.turned (t' := s.toks) (fun b o hb e => (sb.2 b hb).trans e) f0 f1 f3 f4 f5
    obtain ⟨o, e, c, d⟩ := id st'
    exact ⟨u, rfl, go_of (s := { s with heap := h' }) e c d (by decide) ⟨x, H, I1, ru, ⟨rfl, fun ys hy => by rw [I.tuple_inj hy hq]; exact hx⟩, st', fun b hb => (hf b hb).1⟩⟩
  done := by
    intro X hP hw hK hc i pins s σ H E I hf st hg
    subst hP hw hK
    obtain ⟨xs, hq, hx⟩ := hg
    obtain ⟨its, rv, p, hz⟩ := I.tuple hq
    obtain ⟨f0, f1, f2, f3, f4, f5⟩ := hf it (by simp)
    have hl := rv.length
    exact wpAny_pyNext_tuple_end (I.ok.hd hc) st (show s.heap.IsTuple a its.toArray from p) (by simp; omega) fun h' eb => ⟨rfl, I.turned (t' := s.toks) (fun b o hb e => eb b o hb e) f0 f1 f3 f4 f5⟩
  self := fun _ _ _ _ _ st h => wpAny_pyIter_tupleiter st h
theorem turn_range {P : Program} {w : World} {K : PySem.W.Frag} {tg : Expr} (it : Addr) (lo : Int) (n : Nat) : Turn P w K tg (Itr lo n) [it] it (fun i h => IsRangeIter h it (lo + (i : Nat) * 1) ((n : Int) - (i : Nat)) 1) where
  mem := by simp
  obj := fun i h st b hb => by
    have e : b = it := by simpa using hb
    subst e
    exact ⟨_, st, fun v z => by
      have z' : Data.fields _ = Data.cell v := z
      cases z'⟩
  keep := fun i h h' st k => k it (by simp) _ st
  item := by
    intro X hP hw hK hc i pins s σ H E I hf st hg
    subst hP hw hK
    obtain ⟨f0, f1, f2, f3, f4, f5⟩ := hf it (by simp)
    have W := Walks.range (prog := X.prog) (w := X.w) (I.ok.hd hc) it lo 1 n
    refine W.item i s _ _ hg st fun v h' tk hv st' kk => ?_
    obtain ⟨t, rfl⟩ := hv
    have I1 : Inv X pins σ H { s with heap := h', toks := tk } := I.turned (fun b o hb e => kk b o (by simpa using hb) e) f0 f1 f3 f4 f5
    refine ⟨_, rfl, go_of (s := { s with heap := h', toks := tk }) (n := "range_iterator") st' rfl rfl (by decide) ⟨.int (lo + i), H, I1, ⟨t, ?_⟩, ⟨rfl, rfl⟩, st', fun b hb => (hf b hb).1⟩⟩
    rw [Int.mul_one]
  done := by
    intro X hP hw hK hc i pins s σ H E I hf st hg
    subst hP hw hK
    obtain ⟨f0, f1, f2, f3, f4, f5⟩ := hf it (by simp)
    exact wpAny_pyNext_range_end (I.ok.hd hc) st (by have : n ≤ i := hg; omega) fun h' eb => ⟨rfl, I.turned (t' := s.toks) (fun b o hb e => eb b o hb e) f0 f1 f3 f4 f5⟩
  self := fun _ _ _ _ _ st h => wpAny_pyIter_rangeiter st h
end L2

namespace L2
open PySem PySem.Spec PyProof.Rows
section
variable {X : Cx} {tg : Expr}
def iList (K : PySem.W.Frag) (tl : TE) : TI := fun σ H R => tl σ H fun x H1 => ∃ a, x = .ref a ∧ (∃ xs, SqL K H1 a xs) ∧ R (Itl K a) H1
def iTup (K : PySem.W.Frag) (tl : TE) : TI := fun σ H R => tl σ H fun x H1 => ∃ a, x = .ref a ∧ (∃ xs, SqT K H1 a xs) ∧ R (Itt K a) H1
theorem pi_list {l : Expr} {tl : TE} (hl : PE X l tl) : PI X tg l (iList X.K tl) := by
  intro pins s σ H R I h
  refine thn (hl pins s σ H _ I h) fun v s1 ⟨x, H1, I1, r1, q1⟩ => ?_
  obtain ⟨a, e, ⟨xs, hq⟩, q⟩ := q1
  subst e
  cases r1
  obtain ⟨its, rv, p, hz⟩ := I1.list hq
  refine wpAny_pyIter_list p.isList ?_
  refine ⟨s1.heap.objs.size, [s1.heap.objs.size], _, _, H1, rfl, I1.kept (t' := s1.toks) fun b o e => Heap.get?_push_of_some _ e, turn_list a _, ⟨_, Heap.get?_push_size _ rfl, rfl, rfl⟩, fun b hb => ?_, q⟩
  have e : b = s1.heap.objs.size := by simpa using hb
  subst e
  exact I1.fpOk (Nat.le_refl _) (I1.hok.fresh (Nat.le_refl _))
theorem pi_tup {l : Expr} {tl : TE} (hl : PE X l tl) : PI X tg l (iTup X.K tl) := by
  intro pins s σ H R I h
  refine thn (hl pins s σ H _ I h) fun v s1 ⟨x, H1, I1, r1, q1⟩ => ?_
  obtain ⟨a, e, ⟨xs, hq⟩, q⟩ := q1
  subst e
  cases r1
  obtain ⟨its, rv, p, hz⟩ := I1.tuple hq
  refine wpAny_pyIter_tuple (show s1.heap.IsTuple a its.toArray from p) ?_
  refine ⟨s1.heap.objs.size, [s1.heap.objs.size], _, _, H1, rfl, I1.kept (t' := s1.toks) fun b o e => Heap.get?_push_of_some _ e, turn_tuple a _, ⟨_, Heap.get?_push_size _ rfl, rfl, rfl⟩, fun b hb => ?_, q⟩
  have e : b = s1.heap.objs.size := by simpa using hb
  subst e
  exact I1.fpOk (Nat.le_refl _) (I1.hok.fresh (Nat.le_refl _))
/-- a range object just made, walked -/
theorem range_it {pins : List (Addr × Obj)} {σ : St} {H : Hp} {s : Shared} {R : It → Hp → Prop} {E : Value → Shared → Prop} {lo hi : Int} {t u v : Tok} {tk : Nat} (I : Inv X pins σ H s) (h1 : -(2 ^ 62) ≤ lo) (h2 : lo < 2 ^ 62) (h3 : -(2 ^ 62) ≤ hi) (h4 : hi < 2 ^ 62)
    (q : R (Itr lo (hi - lo).toNat) H) : wpAny (model X.prog X.w) X.A (pyIter (.ref s.heap.objs.size)) (PIE X pins σ tg R) E { s with heap := s.heap.push { cls := .type "range", data := .fields #[.int lo t, .int hi u, .int 1 v] }, toks := tk } := by
  refine wpAny_pyIter_range (IsRange.new ..) (small_one h1 h2 h3 h4) ?_
  have I1 : Inv X pins σ H { s with heap := s.heap.push { cls := .type "range", data := .fields #[.int lo t, .int hi u, .int 1 v] }, toks := tk } := I.kept fun b o e => Heap.get?_push_of_some _ e
  refine ⟨(s.heap.push { cls := .type "range", data := .fields #[.int lo t, .int hi u, .int 1 v] }).objs.size, [(s.heap.push { cls := .type "range", data := .fields #[.int lo t, .int hi u, .int 1 v] }).objs.size], _, _, H, rfl,
    I1.kept (t' := tk) fun b o e => Heap.get?_push_of_some _ e, turn_range _ lo (hi - lo).toNat, ?_, fun b hb => ?_, q⟩
  · have e1 : lo + ((0 : Nat) : Int) * 1 = lo := by simp
    have e2 : (((hi - lo).toNat : Nat) : Int) - ((0 : Nat) : Int) = Builtin.Range.rangeSize lo hi 1 := by rw [rangeSize_one]; split <;> omega
    show IsRangeIter _ _ (lo + ((0 : Nat) : Int) * 1) ((((hi - lo).toNat : Nat) : Int) - ((0 : Nat) : Int)) 1
    rw [e1, e2]
    exact Heap.get?_push_size _ rfl
  · have e : b = (s.heap.push { cls := .type "range", data := .fields #[.int lo t, .int hi u, .int 1 v] }).objs.size := by simpa using hb
    subst e
    exact I1.fpOk (Nat.le_refl _) (I1.hok.fresh (Nat.le_refl _))
def iRng1 (ta : TA) : TI := fun σ H R => ta σ H fun vs H1 => ∃ j : Int, vs = [.int j] ∧ -(2 ^ 62) ≤ j ∧ j < 2 ^ 62 ∧ R (Itr 0 j.toNat) H1
def iRng2 (ta : TA) : TI := fun σ H R => ta σ H fun vs H1 => ∃ i j : Int, vs = [.int i, .int j] ∧ (-(2 ^ 62) ≤ i ∧ i < 2 ^ 62 ∧ -(2 ^ 62) ≤ j ∧ j < 2 ^ 62) ∧ R (Itr i (j - i).toNat) H1
theorem pi_range1 {a : Expr} {ta : TA} {p pos : Pos} (hg : Gl X "range") (hm : X.mg "range" = none) (ha : PA X [a] ta) (hs : starEach [a] X.env = [(false, eval a X.env)] := by rfl) : PI X tg (.Call (.Name "range" p) [a] [] pos) (iRng1 ta) := by
  intro pins s σ H R I h
  refine Call_ (ld_blt I hg hm boot_range (PyProof.Rows.callWith_type1 (thn (ha pos pins s σ H _ I h) fun us s1 ⟨vs, H1, I1, r1, q1⟩ => ?_) hs rfl))
  obtain ⟨j, e, q1, q2, q⟩ := q1
  subst e
  cases r1 with
  | cons r rr =>
    cases rr
    obtain ⟨t, rfl⟩ := r
    exact call_range_1 (range_it I1 (by omega) (by omega) q1 q2 (by simpa using q))
theorem pi_range2 {a b : Expr} {ta : TA} {p pos : Pos} (hg : Gl X "range") (hm : X.mg "range" = none) (ha : PA X [a, b] ta) (hs : starEach [a, b] X.env = [(false, eval a X.env), (false, eval b X.env)] := by rfl) (hs2 : starEach [b] X.env = [(false, eval b X.env)] := by rfl) :
    PI X tg (.Call (.Name "range" p) [a, b] [] pos) (iRng2 ta) := by
  intro pins s σ H R I h
  refine Call_ (ld_blt I hg hm boot_range (PyProof.Rows.callWith_type1 (thn (ha pos pins s σ H _ I h) fun us s1 ⟨vs, H1, I1, r1, q1⟩ => ?_) (by rw [hs, hs2]) (by rw [hs2]; rfl)))
  obtain ⟨i, j, e, ⟨q1, q2, q3, q4⟩, q⟩ := q1
  subst e
  cases r1 with
  | cons r rr =>
    cases rr with
    | cons r' rr =>
      cases rr
      obtain ⟨t, rfl⟩ := r
      obtain ⟨t', rfl⟩ := r'
      exact call_range_2 (range_it I1 q1 q2 q3 q4 q)

/-! ### for -/
/-- W: the invariant by the turn and a measure; N: what the body is to reach -/
def tFor (wi : TI) (g : TG) (tb : TS) : TS := fun D σ H => wi σ H fun J H1 => ∃ W : Nat → Nat → St → Hp → Prop, (∃ m, W 0 m σ H1) ∧ ∀ i m σ H, W i m σ H →
  (J.stop i H ∧ D.nx σ H) ∨ (J.go i H ∧ ∃ N : St → Hp → Prop, (∀ σ' H', N σ' H' → ∃ m', m' < m ∧ W (i + 1) m' σ' H') ∧ ∀ x H', J.yld i H x H' → g x σ H' fun σ2 H2 => tb { D with nx := N, ct := N, bk := D.nx } σ2 H2)
/-- the records at fp as they stand -/
def pinsAt (fp : List Addr) (h : Heap) : List (Addr × Obj) := fp.filterMap fun b => (h.get? b).map fun o => (b, o)
theorem mem_pinsAt {fp : List Addr} {h : Heap} {b : Addr} {o : Obj} (hb : b ∈ fp) (e : h.get? b = some o) : (b, o) ∈ pinsAt fp h := List.mem_filterMap.mpr ⟨b, hb, by rw [e]; rfl⟩
theorem of_pinsAt {fp : List Addr} {h : Heap} {p : Addr × Obj} (hp : p ∈ pinsAt fp h) : p.1 ∈ fp ∧ h.get? p.1 = some p.2 := by
  obtain ⟨b, hb, e⟩ := List.mem_filterMap.mp hp
  cases q : h.get? b with
  | none => rw [q] at e; cases e
  | some o =>
    rw [q] at e
    have e' : (b, o) = p := Option.some.inj e
    subst e'
    exact ⟨hb, q⟩
theorem Inv.pinned {pins : List (Addr × Obj)} {σ : St} {H : Hp} {s : Shared} {fp : List Addr} (I : Inv X pins σ H s) (hf : ∀ b ∈ fp, FpOk X pins H b) (ho : ∀ b ∈ fp, ∃ o, s.heap.get? b = some o ∧ ∀ v, o.data ≠ .cell v) : Inv X (pins ++ pinsAt fp s.heap) σ H s :=
  I.pins_of fun p hp => (List.mem_append.mp hp).elim (fun z => I.pin p (List.mem_append_right _ z)) fun z => by
    obtain ⟨hb, e⟩ := of_pinsAt z
    obtain ⟨f0, f1, f2, _⟩ := hf p.1 hb
    obtain ⟨o, e', d⟩ := ho p.1 hb
    rw [e] at e'; cases e'
    exact ⟨e, f0, f1, f2, d⟩
theorem Inv.unpinned {pins pl : List (Addr × Obj)} {σ : St} {H : Hp} {s : Shared} (I : Inv X (pins ++ pl) σ H s) : Inv X pins σ H s := I.pins_of fun p hp => I.pin p (List.mem_append_right _ (List.mem_append_left _ hp))
theorem ps_for {iter : Expr} {body : List Stmt} {wi : TI} {g : TG} {tb : TS} {pos : Pos} (hp : PassesOwn (model X.prog X.w) X.A X.env X.xe) (hc : X.calm = true) (hi : PI X tg iter wi) (hg : PG X tg g) (hb : PSs X body tb)
    (hs : ∀ x, foldedSetIterable iter X.env x = pure x := by intro _; rfl) : PS X (.For tg iter body [] pos) (tFor wi g tb) := by
  intro pins s σ H D I h
  refine wpAny_For (thn (hi pins s σ H _ I h) fun v s1 h1 => thn h1 fun itv s2 h2 => ?_) hs
  obtain ⟨it, fp, tn, J, H2, e, I2, T, st2, f2, W, ⟨m0, w0⟩, turn⟩ := h2
  subst e
  -- what stays true of the iterator's objects through the loop
  have stat : ∀ {H' : Hp}, (∀ b ∈ fp, H' b = none) → ∀ b ∈ fp, FpOk X pins H' b := fun hn b hb => ⟨hn b hb, (f2 b hb).2⟩
  refine codeAny_forLoop_any (fun n s' => ∃ i σ' H', Inv X pins σ' H' s' ∧ tn i s'.heap ∧ (∀ b ∈ fp, H' b = none) ∧ W i n σ' H') ?_ m0 ⟨0, σ, H2, I2, st2, fun b hb => (f2 b hb).1, w0⟩
  rintro n s3 ⟨i, σ3, H3, I3, st3, fr3, w3⟩
  rcases turn i n σ3 H3 w3 with ⟨stop, qn⟩ | ⟨go, N, hN, step⟩
  · refine wpAny_passesOwn hp (thn (T.done X rfl rfl rfl hc i pins s3 σ3 H3 X.xe I3 (stat fr3) st3 stop) fun r s4 ⟨hr, I4⟩ => ?_)
    subst hr
    exact wpAny_execs_nil ⟨σ3, H3, I4, qn⟩
  · refine wpAny_passesOwn hp (thn (T.item X rfl rfl rfl hc i pins s3 σ3 H3 X.xe I3 (stat fr3) st3 go) fun r s4 ⟨u, hr, h4⟩ => ?_)
    subst hr
    refine wpAny_passesOwn hp (thn h4 fun _ s5 ⟨x, H5, I5, r5, y5, st5, fr5⟩ => ?_)
    have I5' := I5.pinned (stat fr5) (T.obj _ _ st5)
    refine wpAny_passesOwn hp (thn (hg _ s5 σ3 H5 x u _ I5' r5 (step x H5 y5)) fun _ s6 ⟨σ6, H6, I6, q6⟩ => ?_)
    refine wpAny_passesOwn hp (thn (hb _ s6 σ6 H6 _ I6 q6) fun f s7 q7 => ?_)
    have again : ∀ {σ7 : St} {H7 : Hp}, Inv X (pins ++ pinsAt fp s5.heap) σ7 H7 s7 → N σ7 H7 → ∃ m, m < n ∧ ∃ i σ' H', Inv X pins σ' H' s7 ∧ tn i s7.heap ∧ (∀ b ∈ fp, H' b = none) ∧ W i m σ' H' := fun {σ7 H7} I7 n7 => by
      obtain ⟨m', hm, w7⟩ := hN σ7 H7 n7
      refine ⟨m', hm, i + 1, σ7, H7, I7.unpinned, T.keep _ _ _ st5 fun b hb o e => (I7.pin (b, o) (List.mem_append_right _ (List.mem_append_right _ (mem_pinsAt hb e)))).1, fun b hb => ?_, w7⟩
      obtain ⟨o, e, d⟩ := T.obj _ _ st5 b hb
      exact (I7.pin (b, o) (List.mem_append_right _ (List.mem_append_right _ (mem_pinsAt hb e)))).2.1
    cases f with
    | next => obtain ⟨σ7, H7, I7, n7⟩ := q7; exact again I7 n7
    | cont => obtain ⟨σ7, H7, I7, n7⟩ := q7; exact again I7 n7
    | brk => obtain ⟨σ7, H7, I7, q7⟩ := q7; exact ⟨σ7, H7, I7.unpinned, q7⟩
    | ret v => obtain ⟨x7, σ7, H7, I7, r7, q7⟩ := q7; exact ⟨x7, σ7, H7, I7.unpinned, r7, q7⟩
end

/-! ### the forms one uses -/
/-- over a list that the body leaves as it is -/
theorem for_list {K : PySem.W.Frag} {a : Addr} {xs : List V} {g : TG} {tb : TS} {D : Ends} {σ : St} {H : Hp} (Pv : Nat → St → Hp → Prop) (h0 : Pv 0 σ H) (hl : ∀ i σ H, i ≤ xs.length → Pv i σ H → SqL K H a xs)
    (hs : ∀ i x σ H, xs[i]? = some x → Pv i σ H → g x σ H fun σ2 H2 => tb { D with nx := Pv (i + 1), ct := Pv (i + 1), bk := D.nx } σ2 H2) (hd : ∀ σ H, Pv xs.length σ H → D.nx σ H) :
    ∃ W : Nat → Nat → St → Hp → Prop, (∃ m, W 0 m σ H) ∧ ∀ i m σ H, W i m σ H →
      ((Itl K a).stop i H ∧ D.nx σ H) ∨ ((Itl K a).go i H ∧ ∃ N : St → Hp → Prop, (∀ σ' H', N σ' H' → ∃ m', m' < m ∧ W (i + 1) m' σ' H') ∧ ∀ x H', (Itl K a).yld i H x H' → g x σ H' fun σ2 H2 => tb { D with nx := N, ct := N, bk := D.nx } σ2 H2) := by
  refine ⟨fun i m σ H => m = xs.length - i ∧ i ≤ xs.length ∧ Pv i σ H, ⟨xs.length, by simp, Nat.zero_le _, h0⟩, ?_⟩
  rintro i m σ H ⟨rfl, hi, p⟩
  have q := hl i σ H hi p
  by_cases hlt : i < xs.length
  · refine .inr ⟨⟨xs, xs[i], q, by simp [hlt]⟩, Pv (i + 1), fun σ' H' p' => ⟨xs.length - (i + 1), by omega, rfl, hlt, p'⟩, fun x H' y => ?_⟩
    obtain ⟨e, y⟩ := y
    subst e
    exact hs i x σ _ (y xs q) p
  · have e : i = xs.length := by omega
    subst e
    exact .inl ⟨⟨xs, q, Nat.le_refl _⟩, hd σ H p⟩
theorem for_tup {K : PySem.W.Frag} {a : Addr} {xs : List V} {g : TG} {tb : TS} {D : Ends} {σ : St} {H : Hp} (Pv : Nat → St → Hp → Prop) (h0 : Pv 0 σ H) (hl : ∀ i σ H, i ≤ xs.length → Pv i σ H → SqT K H a xs)
    (hs : ∀ i x σ H, xs[i]? = some x → Pv i σ H → g x σ H fun σ2 H2 => tb { D with nx := Pv (i + 1), ct := Pv (i + 1), bk := D.nx } σ2 H2) (hd : ∀ σ H, Pv xs.length σ H → D.nx σ H) :
    ∃ W : Nat → Nat → St → Hp → Prop, (∃ m, W 0 m σ H) ∧ ∀ i m σ H, W i m σ H →
      ((Itt K a).stop i H ∧ D.nx σ H) ∨ ((Itt K a).go i H ∧ ∃ N : St → Hp → Prop, (∀ σ' H', N σ' H' → ∃ m', m' < m ∧ W (i + 1) m' σ' H') ∧ ∀ x H', (Itt K a).yld i H x H' → g x σ H' fun σ2 H2 => tb { D with nx := N, ct := N, bk := D.nx } σ2 H2) := by
  refine ⟨fun i m σ H => m = xs.length - i ∧ i ≤ xs.length ∧ Pv i σ H, ⟨xs.length, by simp, Nat.zero_le _, h0⟩, ?_⟩
  rintro i m σ H ⟨rfl, hi, p⟩
  have q := hl i σ H hi p
  by_cases hlt : i < xs.length
  · refine .inr ⟨⟨xs, xs[i], q, by simp [hlt]⟩, Pv (i + 1), fun σ' H' p' => ⟨xs.length - (i + 1), by omega, rfl, hlt, p'⟩, fun x H' y => ?_⟩
    obtain ⟨e, y⟩ := y
    subst e
    exact hs i x σ _ (y xs q) p
  · have e : i = xs.length := by omega
    subst e
    exact .inl ⟨⟨xs, q, Nat.le_refl _⟩, hd σ H p⟩
theorem for_range {lo : Int} {n : Nat} {g : TG} {tb : TS} {D : Ends} {σ : St} {H : Hp} (Pv : Nat → St → Hp → Prop) (h0 : Pv 0 σ H)
    (hs : ∀ i σ H, i < n → Pv i σ H → g (.int (lo + i)) σ H fun σ2 H2 => tb { D with nx := Pv (i + 1), ct := Pv (i + 1), bk := D.nx } σ2 H2) (hd : ∀ σ H, Pv n σ H → D.nx σ H) :
    ∃ W : Nat → Nat → St → Hp → Prop, (∃ m, W 0 m σ H) ∧ ∀ i m σ H, W i m σ H →
      ((Itr lo n).stop i H ∧ D.nx σ H) ∨ ((Itr lo n).go i H ∧ ∃ N : St → Hp → Prop, (∀ σ' H', N σ' H' → ∃ m', m' < m ∧ W (i + 1) m' σ' H') ∧ ∀ x H', (Itr lo n).yld i H x H' → g x σ H' fun σ2 H2 => tb { D with nx := N, ct := N, bk := D.nx } σ2 H2) := by
  refine ⟨fun i m σ H => m = n - i ∧ i ≤ n ∧ Pv i σ H, ⟨n, by simp, Nat.zero_le _, h0⟩, ?_⟩
  rintro i m σ H ⟨rfl, hi, p⟩
  by_cases hlt : i < n
  · refine .inr ⟨hlt, Pv (i + 1), fun σ' H' p' => ⟨n - (i + 1), by omega, rfl, hlt, p'⟩, fun x H' y => ?_⟩
    obtain ⟨e, y⟩ := y
    subst e y
    exact hs i σ _ hlt p
  · have e : i = n := by omega
    subst e
    exact .inl ⟨Nat.le_refl _, hd σ H p⟩
end L2

namespace L2
open PySem PySem.Spec PyProof.Rows

abbrev R2 := V → V → Hp → VK → Prop
/-- a two-place operation on values: f is binaryOp op, inplaceOp op or compareOp op -/
def OpR (X : Cx) (f : Value → Value → Sem Value) (r : R2) : Prop :=
  ∀ (pins : List (Addr × Obj)) (s : Shared) (σ : St) (H : Hp) (x y : V) (v u : Value) (Q : VK), Inv X pins σ H s → RelV x v → RelV y u → r x y H Q →
    wpAny (model X.prog X.w) X.A (f v u) (EP X pins σ Q) X.xe s
/-- a one-place operation -/
def UnR (X : Cx) (f : Value → Sem Value) (r : V → Hp → VK → Prop) : Prop :=
  ∀ (pins : List (Addr × Obj)) (s : Shared) (σ : St) (H : Hp) (x : V) (v : Value) (Q : VK), Inv X pins σ H s → RelV x v → r x H Q →
    wpAny (model X.prog X.w) X.A (f v) (EP X pins σ Q) X.xe s
/-- a call of a value that is known (a builtin, a type) with values -/
def CallR (X : Cx) (f : Value) (r : List V → Hp → VK → Prop) : Prop :=
  ∀ (pins : List (Addr × Obj)) (s : Shared) (σ : St) (H : Hp) (xs : List V) (us : List Value) (Q : VK), Inv X pins σ H s → Vals xs us → r xs H Q →
    wpAny (model X.prog X.w) X.A (call f us) (EP X pins σ Q) X.xe s
/-- a value's truth -/
def TruR (X : Cx) (r : V → Hp → (Bool → Hp → Prop) → Prop) : Prop :=
  ∀ (pins : List (Addr × Obj)) (s : Shared) (σ : St) (H : Hp) (x : V) (v : Value) (Q : Bool → Hp → Prop), Inv X pins σ H s → RelV x v → r x H Q →
    wpAny (model X.prog X.w) X.A (truthy v) (TP X pins σ Q) X.xe s

def tOp (r : R2) (ta tb : TE) : TE := fun σ H Q => ta σ H fun x H1 => tb σ H1 fun y H2 => r x y H2 Q
def tUn (r : V → Hp → VK → Prop) (ta : TE) : TE := fun σ H Q => ta σ H fun x H1 => r x H1 Q
/-- ints in, under C, and a value out -/
def rI (C : Int → Int → Prop) (g : Int → Int → V) : R2 := fun x y H Q => ∃ i j, x = .int i ∧ y = .int j ∧ C i j ∧ Q (g i j) H
def rI0 (g : Int → Int → V) : R2 := fun x y H Q => ∃ i j, x = .int i ∧ y = .int j ∧ Q (g i j) H
def rU (g : Int → V) : V → Hp → VK → Prop := fun x H Q => ∃ i, x = .int i ∧ Q (g i) H

section
variable {X : Cx} {a b c : Expr} {ta tb tc : TE} {pos : Pos}

theorem binT (ha : PE X a ta) (hb : PE X b tb) {pins : List (Addr × Obj)} {s : Shared} {σ : St} {H : Hp} {R : V → V → Hp → Prop} (I : Inv X pins σ H s)
    (h : ta σ H fun x H1 => tb σ H1 fun y H2 => R x y H2) {Q : Value → Shared → Prop} {f : Value → Value → Sem Value}
    (hf : ∀ v u s2 x y H2, Inv X pins σ H2 s2 → RelV x v → RelV y u → R x y H2 → wpAny (model X.prog X.w) X.A (f v u) Q X.xe s2) :
    wpAny (model X.prog X.w) X.A (eval a X.env) (fun v s₁ => wpAny (model X.prog X.w) X.A (eval b X.env) (fun u s₂ => wpAny (model X.prog X.w) X.A (f v u) Q X.xe s₂) X.xe s₁) X.xe s := by
  refine thn (ha pins s σ H _ I h) fun v s1 ⟨x, H1, I1, r1, q1⟩ => ?_
  refine thn (hb pins s1 σ H1 _ I1 q1) fun u s2 ⟨y, H2, I2, r2, q2⟩ => ?_
  exact hf v u s2 x y H2 I2 r1 r2 q2

theorem pe_op {op : Operator} {r : R2} (ho : OpR X (binaryOp op) r) (ha : PE X a ta) (hb : PE X b tb) : PE X (.BinOp a op b pos) (tOp r ta tb) := by
  intro pins s σ H Q I h
  exact wpAny_BinOp (binT ha hb I h fun v u s2 x y H2 I2 rx ry q => ho pins s2 σ H2 x y v u Q I2 rx ry q)
/-! ### ints -/
theorem opI {f : Value → Value → Sem Value} {C : Int → Int → Prop} {g : Int → Int → Int}
    (rule : ∀ (i j : Int) (t u : Tok) (s : Shared) (Q : Value → Shared → Prop) (E : Value → Shared → Prop), C i j → Q (.int (g i j) s.toks) { s with toks := s.toks + 1 } → wpAny (model X.prog X.w) X.A (f (.int i t) (.int j u)) Q E s) :
    OpR X f (rI C fun i j => .int (g i j)) := by
  intro pins s σ H x y v u Q I rx ry h
  obtain ⟨i, j, rfl, rfl, hc, q⟩ := h
  obtain ⟨t, rfl⟩ := rx
  obtain ⟨t', rfl⟩ := ry
  exact rule i j t t' s _ _ hc ⟨.int (g i j), H, I.tok _, ⟨_, rfl⟩, q⟩
theorem opI0 {f : Value → Value → Sem Value} {g : Int → Int → Int}
    (rule : ∀ (i j : Int) (t u : Tok) (s : Shared) (Q : Value → Shared → Prop) (E : Value → Shared → Prop), Q (.int (g i j) s.toks) { s with toks := s.toks + 1 } → wpAny (model X.prog X.w) X.A (f (.int i t) (.int j u)) Q E s) :
    OpR X f (rI0 fun i j => .int (g i j)) := by
  intro pins s σ H x y v u Q I rx ry h
  obtain ⟨i, j, rfl, rfl, q⟩ := h
  obtain ⟨t, rfl⟩ := rx
  obtain ⟨t', rfl⟩ := ry
  exact rule i j t t' s _ _ ⟨.int (g i j), H, I.tok _, ⟨_, rfl⟩, q⟩
theorem opB0 {f : Value → Value → Sem Value} {g : Int → Int → Bool}
    (rule : ∀ (i j : Int) (t u : Tok) (s : Shared) (Q : Value → Shared → Prop) (E : Value → Shared → Prop), Q (.bool (g i j)) s → wpAny (model X.prog X.w) X.A (f (.int i t) (.int j u)) Q E s) :
    OpR X f (rI0 fun i j => .bl (g i j)) := by
  intro pins s σ H x y v u Q I rx ry h
  obtain ⟨i, j, rfl, rfl, q⟩ := h
  obtain ⟨t, rfl⟩ := rx
  obtain ⟨t', rfl⟩ := ry
  exact rule i j t t' s _ _ ⟨.bl (g i j), H, I, rfl, q⟩

def CDiv (i j : Int) : Prop := 0 < j ∧ j < 1073741824
def CDivN (i j : Int) : Prop := j ≠ 0 ∧ j.natAbs < 1073741824
def CPow (i j : Int) : Prop := 0 ≤ j ∧ j ≤ 1000000 ∧ i.natAbs < 2 ^ 64
def CMul (i j : Int) : Prop := (-(2 ^ 64) < i ∧ i < 2 ^ 64) ∨ (-(2 ^ 64) < j ∧ j < 2 ^ 64)
theorem op_add : OpR X (binaryOp .Add) (rI0 fun i j => .int (i + j)) := opI0 fun _ _ _ _ _ _ _ q => add_int q
theorem op_sub : OpR X (binaryOp .Sub) (rI0 fun i j => .int (i - j)) := opI0 fun _ _ _ _ _ _ _ q => sub_int q
/-- % by a positive divisor of any size -/
theorem op_mod : OpR X (binaryOp .Mod) (rI (fun _ j => 0 < j) fun i j => .int (i % j)) := opI fun i j _ _ _ _ _ hc q => by
  have h1 : (0 : Int) < j := hc
  exact mod_int' (by omega) (by rw [Int.fmod_eq_emod_of_nonneg i (by omega)]; exact q)
/-! ### bools among ints: n += (a < b) -/
end

/-! ### comparisons -/
/-- the scalars that == tells apart as data does -/
def scal : V → V → Bool
  | .non, .non => true | .non, .int _ => true | .int _, .non => true | .non, .bl _ => true | .bl _, .non => true | .non, .str _ => true | .str _, .non => true
  | .int _, .int _ => true | .bl _, .bl _ => true | .str _, .str _ => true | .byt _, .byt _ => true
  | .int _, .str _ => true | .str _, .int _ => true | .bl _, .str _ => true | .str _, .bl _ => true
  | _, _ => false
def rEq : R2 := fun x y H Q => scal x y = true ∧ Q (.bl (decide (x = y))) H
def rNe : R2 := fun x y H Q => scal x y = true ∧ Q (.bl (!decide (x = y))) H

theorem dec_int {i j : Int} : decide (V.int i = V.int j) = (i == j) := by
  rw [Bool.eq_iff_iff]
  simp
theorem dec_bl {i j : Bool} : decide (V.bl i = V.bl j) = (i == j) := by
  rw [Bool.eq_iff_iff]
  simp
theorem dec_str {i j : Str} : decide (V.str i = V.str j) = (i == j) := by
  rw [Bool.eq_iff_iff]
  simp
theorem dec_byt {i j : Array UInt8} : decide (V.byt i = V.byt j) = (i.toList == j.toList) := by
  rw [Bool.eq_iff_iff]
  cases i
  cases j
  simp

section
variable {X : Cx} {a b c : Expr} {ta tb tc : TE} {pos : Pos}
theorem fin_bl {pins : List (Addr × Obj)} {σ : St} {H : Hp} {s : Shared} {Q : VK} {k k' : Bool} (I : Inv X pins σ H s) (q : Q (.bl k) H) (e : k = k') : EP X pins σ Q (.bool k') s := by
  subst e
  exact ⟨.bl k, H, I, rfl, q⟩
theorem op_eq : OpR X (compareOp .Eq) rEq := by
  intro pins s σ H x y v u Q I rx ry h
  obtain ⟨hs, q⟩ := h
  cases x with
  | non =>
    cases rx
    cases y with
    | non => cases ry; exact PySem.EqNone.eq_none_none (fin_bl I q (by simp))
    | bl j => cases ry; exact PySem.EqNone.eq_none_bool (fin_bl I q (by simp))
    | int j => obtain ⟨t', rfl⟩ := ry; exact PySem.EqNone.eq_none_int (fin_bl I q (by simp))
    | str j => obtain ⟨t', rfl⟩ := ry; exact PySem.EqNone.eq_none_str (fin_bl I q (by simp))
    | _ => exact absurd (show false = true from hs) Bool.false_ne_true
  | bl i =>
    cases rx
    cases y with
    | non => cases ry; exact PySem.EqNone.eq_bool_none (fin_bl I q (by simp))
    | bl j => cases ry; exact eq_bool (fin_bl I q dec_bl)
    | str j => obtain ⟨t', rfl⟩ := ry; exact PySem.EqMixed.eq_bool_str (fin_bl I q (by simp))
    | _ => exact absurd (show false = true from hs) Bool.false_ne_true
  | int i =>
    obtain ⟨t, rfl⟩ := rx
    cases y with
    | non => cases ry; exact PySem.EqNone.eq_int_none (fin_bl I q (by simp))
    | int j => obtain ⟨t', rfl⟩ := ry; exact eq_int (fin_bl I q dec_int)
    | str j => obtain ⟨t', rfl⟩ := ry; exact PySem.EqMixed.eq_int_str (fin_bl I q (by simp))
    | _ => exact absurd (show false = true from hs) Bool.false_ne_true
  | str i =>
    obtain ⟨t, rfl⟩ := rx
    cases y with
    | non => cases ry; exact PySem.EqNone.eq_str_none (fin_bl I q (by simp))
    | bl j => cases ry; exact PySem.EqMixed.eq_str_bool (fin_bl I q (by simp))
    | int j => obtain ⟨t', rfl⟩ := ry; exact PySem.EqMixed.eq_str_int (fin_bl I q (by simp))
    | str j => obtain ⟨t', rfl⟩ := ry; exact eq_str (fin_bl I q dec_str)
    | _ => exact absurd (show false = true from hs) Bool.false_ne_true
  | byt i =>
    obtain ⟨t, rfl⟩ := rx
    cases y with
    | byt j => obtain ⟨t', rfl⟩ := ry; exact PySem.W.eq_bytes (fin_bl I q dec_byt)
    | _ => exact absurd (show false = true from hs) Bool.false_ne_true
  | _ => cases y <;> exact absurd (show false = true from hs) Bool.false_ne_true
theorem op_ne : OpR X (compareOp .NotEq) rNe := by
  intro pins s σ H x y v u Q I rx ry h
  obtain ⟨hs, q⟩ := h
  cases x with
  | non =>
    cases rx
    cases y with
    | non => cases ry; exact PySem.EqNone.ne_none_none (fin_bl I q (by simp))
    | bl j => cases ry; exact PySem.EqNone.ne_none_bool (fin_bl I q (by simp))
    | int j => obtain ⟨t', rfl⟩ := ry; exact PySem.EqNone.ne_none_int (fin_bl I q (by simp))
    | str j => obtain ⟨t', rfl⟩ := ry; exact PySem.EqNone.ne_none_str (fin_bl I q (by simp))
    | _ => exact absurd (show false = true from hs) Bool.false_ne_true
  | bl i =>
    cases rx
    cases y with
    | non => cases ry; exact PySem.EqNone.ne_bool_none (fin_bl I q (by simp))
    | bl j => cases ry; exact ne_bool (fin_bl I q (congrArg not dec_bl))
    | str j => obtain ⟨t', rfl⟩ := ry; exact PySem.EqMixed.ne_bool_str (fin_bl I q (by simp))
    | _ => exact absurd (show false = true from hs) Bool.false_ne_true
  | int i =>
    obtain ⟨t, rfl⟩ := rx
    cases y with
    | non => cases ry; exact PySem.EqNone.ne_int_none (fin_bl I q (by simp))
    | int j => obtain ⟨t', rfl⟩ := ry; exact ne_int (fin_bl I q (congrArg not dec_int))
    | str j => obtain ⟨t', rfl⟩ := ry; exact PySem.EqMixed.ne_int_str (fin_bl I q (by simp))
    | _ => exact absurd (show false = true from hs) Bool.false_ne_true
  | str i =>
    obtain ⟨t, rfl⟩ := rx
    cases y with
    | non => cases ry; exact PySem.EqNone.ne_str_none (fin_bl I q (by simp))
    | bl j => cases ry; exact PySem.EqMixed.ne_str_bool (fin_bl I q (by simp))
    | int j => obtain ⟨t', rfl⟩ := ry; exact PySem.EqMixed.ne_str_int (fin_bl I q (by simp))
    | str j => obtain ⟨t', rfl⟩ := ry; exact ne_str (fin_bl I q (congrArg not dec_str))
    | _ => exact absurd (show false = true from hs) Bool.false_ne_true
  | byt i =>
    obtain ⟨t, rfl⟩ := rx
    cases y with
    | byt j => obtain ⟨t', rfl⟩ := ry; exact PySem.W.ne_bytes (fin_bl I q (congrArg not dec_byt))
    | _ => exact absurd (show false = true from hs) Bool.false_ne_true
  | _ => cases y <;> exact absurd (show false = true from hs) Bool.false_ne_true

theorem op_lt : OpR X (compareOp .Lt) (rI0 fun i j => .bl (decide (i < j))) := opB0 fun _ _ _ _ _ _ _ q => lt_int q
theorem op_le : OpR X (compareOp .LtE) (rI0 fun i j => .bl (decide (i ≤ j))) := opB0 fun _ _ _ _ _ _ _ q => le_int q
theorem op_gt : OpR X (compareOp .Gt) (rI0 fun i j => .bl (decide (j < i))) := opB0 fun _ _ _ _ _ _ _ q => gt_int q
theorem op_ge : OpR X (compareOp .GtE) (rI0 fun i j => .bl (decide (j ≤ i))) := opB0 fun _ _ _ _ _ _ _ q => ge_int q
/-- is, is not of two objects that are tracked lists or instances -/
def isObj : HO → Bool
  | .lst _ => true
  | .ins _ _ _ => true
  | _ => false
theorem nomark (b : Expr) {op : CmpOp} (h : op ≠ .In := by decide) (h2 : op ≠ .NotIn := by decide) : behindInMarks op b = false := by
  have e1 : (op == CmpOp.In) = false := by cases op <;> first | rfl | exact absurd rfl h
  have e2 : (op == CmpOp.NotIn) = false := by cases op <;> first | rfl | exact absurd rfl h2
  cases b <;> simp [behindInMarks, e1, e2]
/-- a comparison as a value; hm: nomark b, or (for in, not in) by with_unfolding_all rfl -/
theorem pe_cmpR {op : CmpOp} {r : R2} (ho : OpR X (compareOp op) r) (ha : PE X a ta) (hb : PE X b tb) (hm : behindInMarks op b = false) : PE X (.Compare a [op] [b] pos) (tOp r ta tb) := by
  intro pins s σ H Q I h
  exact wpAny_Compare1 (binT ha hb I h fun v u s2 x y H2 I2 rx ry q => ho pins s2 σ H2 x y v u Q I2 rx ry q) hm
/-- a reading of a value as a test -/
def tTest (t : TE) : TT := fun σ H Q => t σ H fun x H' => ∃ k, x = .bl k ∧ Q k H'
theorem pt_cmpR {op : CmpOp} {r : R2} (ho : OpR X (compareOp op) r) (ha : PE X a ta) (hb : PE X b tb) (hm : behindInMarks op b = false) : PT X (.Compare a [op] [b] pos) (tTest (tOp r ta tb)) := by
  intro pins s σ H Q I h
  refine wpAny_isTrue_Compare1 (thn (ha pins s σ H _ I h) fun v s1 ⟨x, H1, I1, r1, q1⟩ => thn (hb pins s1 σ H1 _ I1 q1) fun u s2 ⟨y, H2, I2, r2, q2⟩ =>
    thn (ho pins s2 σ H2 x y v u _ I2 r1 r2 q2) fun c s3 ⟨z, H3, I3, r3, k, e, q3⟩ => ?_) hm
  subst e
  cases r3
  exact wpAny_truthy_bool ⟨H3, I3, q3⟩
/-- a op1 b op2 c -/
def tChain (r r' : R2) (ta tb tc : TE) : TE := fun σ H Q => ta σ H fun x H1 => tb σ H1 fun y H2 => r x y H2 fun z H3 => ∃ k, z = .bl k ∧
  (if k = true then tc σ H3 fun w' H4 => r' y w' H4 Q else Q (.bl false) H3)
/-! ### truth -/
/-- a value's truth by the abstract heap -/
def TruV (K : PySem.W.Frag) (x : V) (H : Hp) (k : Bool) : Prop :=
  match x with
  | .non => k = false
  | .bl b => k = b
  | .int i => k = (i != 0)
  | .str y => y.length ≤ sizeLine ∧ k = ((y.length : Int) != 0)
  | .byt y => y.size ≤ sizeLine ∧ k = ((y.size : Int) != 0)
  | .ref p => (∃ xs, SqL K H p xs ∧ k = !xs.isEmpty) ∨ (∃ xs, SqT K H p xs ∧ k = !xs.isEmpty) ∨ ∃ kvs, H p = some (.dK kvs) ∧ k = !kvs.isEmpty
  | _ => False
theorem line63 : (sizeLine : Nat) < 2 ^ 63 := by rw [sizeLine_eq]; decide
/-! ### strs and bytes -/
def PlainIxT (b : Expr) : Prop := ∀ o i, subscripted b false o i = operate [o, i] (getItem o i)
/-! ### scalar builtins, by CallR -/
theorem vals1 {x : V} {us : List Value} (r : Vals [x] us) : ∃ u, us = [u] ∧ RelV x u := by
  cases r with
  | cons r1 r2 => cases r2; exact ⟨_, rfl, r1⟩
/-- len of a str, a bytes, a list, a tuple -/
def LenV (K : PySem.W.Frag) (x : V) (H : Hp) (n : Nat) : Prop :=
  match x with
  | .str y => y.length ≤ sizeLine ∧ n = y.length
  | .byt y => y.size ≤ sizeLine ∧ n = y.size
  | .ref p => (∃ xs, SqL K H p xs ∧ n = xs.length) ∨ ∃ xs, SqT K H p xs ∧ n = xs.length
  | _ => False
end
end L2

namespace L2
open PySem PySem.Spec PyProof.Rows

/-! ### an instance, its attributes a map -/
structure ObjM (h : Heap) (x dx C : Addr) (mA : Str → Option Value) : Prop where
  obj : h.get? x = some (PySem.W.instObj C dx)
  ns : h.Ns1 dx mA
  ne : dx ≠ x

theorem lookIn_ns {h : Heap} {dx : Addr} {mA : Str → Option Value} (n : h.Ns1 dx mA) : ∃ od, h.get? dx = some od ∧ ∀ name, PySem.W.lookIn name od = some (mA name) := by
  obtain ⟨o, es, ep, ho, hd, hk, _, hm⟩ := n
  refine ⟨o, ho, fun name => ?_⟩
  have e := hm name
  unfold nsFind findBy at e
  rw [← Array.find?_toList] at e
  unfold PySem.W.lookIn
  rw [hd]
  dsimp only
  split
  · rename_i y q
    rw [q] at e
    exact congrArg some e
  · rename_i q
    rw [q] at e
    have a : es.toList.any (·.refKey) = false := by
      rw [List.any_eq_false]
      intro y hy
      obtain ⟨z, t, hkey⟩ := hk y (Array.mem_toList_iff.mp hy)
      simp [DictEntry.refKey, hkey]
    have a' : ¬ es.toList.any (·.refKey) = true := by rw [a]; exact Bool.false_ne_true
    rw [if_neg a']
    exact congrArg some e

theorem ObjM.look {h : Heap} {x dx C : Addr} {mA : Str → Option Value} (I : ObjM h x dx C mA) : ∃ od, PySem.W.InstAt h x (PySem.W.instObj C dx) C (some od) ∧ ∀ name, PySem.W.lookIn name od = some (mA name) :=
  let ⟨od, ho, hl⟩ := lookIn_ns I.ns
  ⟨od, ⟨I.obj, rfl, rfl, ho⟩, hl⟩

section
variable {prog : Program} {w : World} {A : Around} {E : Value → Shared → Prop} {s : Shared} {K : PySem.W.Frag} {x dx C f : Addr} {mA : Str → Option Value} {name : Str} {v : Value}

theorem get_map {expr : Bool} {Q : Value → Shared → Prop} (X : K.In s.heap) (I : ObjM s.heap x dx C mA) (hg : PySem.W.plainGet K C name = true) (hh : PySem.W.hasDictIn K C = true)
    (ha : PySem.W.findIn K (.ref C) name = some none) (hv : mA name = some v) (hv' : PySem.W.handedIn v = true) (h : Q v { s with toks := s.toks + 1 }) :
    wpAny (model prog w) A (getAttr (.ref x) name expr) Q E s := by
  obtain ⟨od, J, hl⟩ := I.look
  exact PySem.W.get_value X J (PySem.W.plainGet_of hg).1 (PySem.W.findObj_own hh ha rfl (by rw [hl, hv])) hv' h

theorem get_meth {pl : Sem Bool} {Q : Value × List Value → Shared → Prop} (X : K.In s.heap) (I : ObjM s.heap x dx C mA) (hg : PySem.W.plainGet K C name = true)
    (hf : PySem.W.findIn K (.ref C) name = some (some (.ref f))) (ht : PySem.W.isFn K (.ref f) = true) (hv : mA name = none) (h : Q (.ref f, [.ref x]) s) :
    wpAny (model prog w) A (getMethod (.ref x) name pl) Q E s := by
  obtain ⟨od, J, hl⟩ := I.look
  exact PySem.W.method_fn X J (PySem.W.plainGet_of hg).1 (PySem.W.plainGet_of hg).2 hf (beq_iff_eq.mp ht) (by show (PySem.W.lookIn name od).map (·.isSome) = some false; rw [hl, hv]; rfl) h

theorem set_map {ns : List Str} {Q : Unit → Shared → Prop} (X : K.In s.heap) (I : ObjM s.heap x dx C mA)
    (hs : PySem.W.findIn K (.ref C) "__setattr__" = some (some (.builtin "object.__setattr__"))) (hp : PySem.W.plainOver K C = true) (ht : PySem.W.takerIn K C name = some none) (hh : PySem.W.hasDictIn K C = true)
    (hw : PySem.Within mA ns) (hsz : ns.length ≤ sizeLine)
    (h : ∀ h', ObjM h' x dx C (fun y => if y = name then some v else mA y) → Heap.SameBut dx s.heap h' → Q () { s with heap := h', toks := s.toks + 2 }) :
    wpAny (model prog w) A (setAttr (.ref x) name v) Q E s := by
  obtain ⟨od, J, hl⟩ := I.look
  refine PySem.W.set_plain X J hs (PySem.W.osa_open (s := { s with toks := s.toks + 1 }) (r := none) X J hp ht fun b => ?_)
  obtain ⟨cd, hc, hd'⟩ := PySem.W.any_some hh
  have hx : s.heap.get? x = some ⟨.ref C, some dx, .plain, #[]⟩ := I.obj
  refine wpAny_bind (wpAny_pure (wpAny_bind (wpAny_bind (wpAny_loadPart hx (wpAny_bind (PySem.W.Looks.here (s := { s with toks := s.toks + 1 }) (PySem.W.looks_clsIn X hc) ?_))))))
  rw [hd']
  refine wpAny_pure (a := some dx) (wpAny_bind (wpAny_pure (wpAny_bind ?_)))
  refine wpAny_nsSet1 (s := { s with toks := s.toks + 1 }) I.ns fun h' hn2 hs2 => ?_
  obtain ⟨oD, esD, epD, hoD, hdD, hcD⟩ := hn2.count (PySem.Within.cons name v hw)
  refine wpAny_bind (wpAny_lookBehind hoD (by rw [hdD]; exact pastItsLine_dict (Nat.le_trans hcD (by rw [List.length_cons]; omega))) ?_)
  exact wpAny_pure (h _ ⟨(hs2.2 _ (Ne.symm I.ne)).trans I.obj, hn2, I.ne⟩ hs2)

/-- C(..): the dict at the heap's end, the instance behind it; then its __init__ -/
theorem make_map {R : Result → Shared → Prop} {vs : List Value} {kw : List (Str × Value)} (X : K.In s.heap) (hm : PySem.W.makesIn K C = true)
    (hi : PySem.W.findIn K (.ref C) "__init__" = some (some (.ref f))) (hf : PySem.W.typeIn K (.ref f) = some (.type "function"))
    (h : codeAny (model prog w) (A.under (.builtin "type.__call__" ⟨.ref C :: vs, kw⟩)) (.call (.ref f) ⟨.ref (s.heap.objs.size + 1) :: vs, kw⟩) (PySem.W.InitBack (s.heap.objs.size + 1) R)
      { s with heap := (s.heap.push PySem.W.emptyDict).push (PySem.W.instObj C s.heap.objs.size) }) :
    codeAny (model prog w) A (.call (.ref C) ⟨vs, kw⟩) R s := by
  obtain ⟨hh, g, d, t, os⟩ := s
  exact PySem.W.make_core (PySem.W.makes_of X hm) (PySem.W.looks_findIn X hi) (fun self => PySem.W.bind_fn X self hf) (.inl rfl) h
end

/-! ### the attributes as a list of pairs -/
def putF (f : Str) (v : V) : List (Str × V) → List (Str × V)
  | [] => [(f, v)]
  | (g, x) :: r => if g = f then (g, v) :: r else (g, x) :: putF f v r
theorem lookup_putF (f g : Str) (v : V) : ∀ fs : List (Str × V), (putF f v fs).lookup g = if g = f then some v else fs.lookup g
  | [] => by
    show List.lookup g [(f, v)] = _
    by_cases h : g = f
    · have hb : (g == f) = true := beq_iff_eq.mpr h
      simp only [List.lookup, hb, if_pos h]
    · have hb : (g == f) = false := beq_eq_false_iff_ne.mpr h
      simp only [List.lookup, hb, if_neg h]
  | (k, x) :: r => by
    have ih := lookup_putF f g v r
    rw [show putF f v ((k, x) :: r) = (if k = f then (k, v) :: r else (k, x) :: putF f v r) from rfl]
    by_cases hk : k = f
    · rw [if_pos hk]
      by_cases h : g = k
      · have hb : (g == k) = true := beq_iff_eq.mpr h
        simp only [List.lookup, hb, if_pos (h.trans hk)]
      · have hb : (g == k) = false := beq_eq_false_iff_ne.mpr h
        simp only [List.lookup, hb, if_neg (fun e : g = f => h (e.trans hk.symm))]
    · rw [if_neg hk]
      by_cases h : g = k
      · have hb : (g == k) = true := beq_iff_eq.mpr h
        simp only [List.lookup, hb, if_neg (fun e : g = f => hk (h.symm.trans e))]
      · have hb : (g == k) = false := beq_eq_false_iff_ne.mpr h
        simp only [List.lookup, hb]
        exact ih
theorem keys_putF (f : Str) (v : V) : ∀ fs : List (Str × V), f ∈ (putF f v fs).map (·.1) ∧ ∀ g, g ∈ fs.map (·.1) → g ∈ (putF f v fs).map (·.1)
  | [] => ⟨by simp [putF], fun g h => by simp at h⟩
  | (k, x) :: r => by
    obtain ⟨i1, i2⟩ := keys_putF f v r
    rw [show putF f v ((k, x) :: r) = (if k = f then (k, v) :: r else (k, x) :: putF f v r) from rfl]
    by_cases hk : k = f
    · rw [if_pos hk]
      subst hk
      exact ⟨by simp, fun g h => by simpa using h⟩
    · rw [if_neg hk]
      refine ⟨?_, fun g h => ?_⟩
      · rw [List.map_cons]
        exact List.mem_cons_of_mem _ i1
      · rw [List.map_cons] at h ⊢
        rcases List.mem_cons.mp h with e | e
        · exact List.mem_cons.mpr (.inl e)
        · exact List.mem_cons_of_mem _ (i2 g e)
theorem length_putF (f : Str) (v : V) : ∀ fs : List (Str × V), (putF f v fs).length ≤ fs.length + 1
  | [] => by simp [putF]
  | (k, x) :: r => by
    have ih := length_putF f v r
    rw [show putF f v ((k, x) :: r) = (if k = f then (k, v) :: r else (k, x) :: putF f v r) from rfl]
    by_cases hk : k = f
    · rw [if_pos hk, List.length_cons, List.length_cons]; omega
    · rw [if_neg hk, List.length_cons, List.length_cons]; omega

theorem RelO.some_of {v : V} {o : Option Value} (r : RelO (some v) o) : ∃ u, o = some u ∧ RelV v u := by
  cases o with
  | none => exact (show False from r).elim
  | some u => exact ⟨u, rfl, r⟩
theorem RelO.none_of {o : Option Value} (r : RelO none o) : o = none := by
  cases o with
  | none => rfl
  | some u => exact (show False from r).elim
theorem handed_of {v : V} {u : Value} (r : RelV v u) : PySem.W.handedIn u = true := by
  cases v with
  | non => cases (show u = Value.none from r); rfl
  | bl b => cases (show u = Value.bool b from r); rfl
  | int i => obtain ⟨t, e⟩ := (show ∃ t, u = Value.int i t from r); cases e; rfl
  | str x => obtain ⟨t, e⟩ := (show ∃ t, u = Value.str x t from r); cases e; rfl
  | byt b => obtain ⟨t, e⟩ := (show ∃ t, u = Value.bytes b t from r); cases e; rfl
  | flt b => obtain ⟨t, e⟩ := (show ∃ t, u = Value.float b t from r); cases e; rfl
  | ref a => cases (show u = Value.ref a from r); rfl
  | ty n => cases (show u = Value.type n from r); rfl

section
variable {P : Program} {w : World} {H H' : Hp} {h h' : Heap} {a C dx : Addr} {fs fs' : List (Str × V)}
theorem ins_get (hok : HOk P w H h) (e : H a = some (.ins C dx fs)) : ∃ mA, ObjM h a dx C mA ∧ (∀ f, RelO (fs.lookup f) (mA f)) ∧ PySem.Within mA (fs.map (·.1)) ∧ fs.length ≤ 1000 ∧ H dx = some (.own a) := by
  obtain ⟨d, z, ne, ob, mA, n, r, q⟩ := (show ObjOk P w H h a (.ins C dx fs) from hok a _ e)
  exact ⟨mA, ⟨ob, n, ne⟩, r, q, z, d⟩
end

/-! ### what of the text a class must have -/
structure Cls (K : PySem.W.Frag) (C : Addr) : Prop where
  pg : PySem.W.plainGet K C Str.empty = true
  hd : PySem.W.hasDictIn K C = true
  po : PySem.W.plainOver K C = true
  sa : PySem.W.findIn K (.ref C) "__setattr__" = some (some (.builtin "object.__setattr__"))
theorem Cls.get {K : PySem.W.Frag} {C : Addr} (c : Cls K C) (f : Str) : PySem.W.plainGet K C f = true := c.pg
/-- no class of it has the name -/
def NoAttr (K : PySem.W.Frag) (C : Addr) (f : Str) : Prop := PySem.W.findIn K (.ref C) f = some none
theorem NoAttr.taker {K : PySem.W.Frag} {C : Addr} {f : Str} (n : NoAttr K C f) : PySem.W.takerIn K C f = some none := by
  unfold PySem.W.takerIn
  rw [show PySem.W.findIn K (.ref C) f = some none from n]
  rfl
/-- a constant of the class -/
structure Con (K : PySem.W.Frag) (C : Addr) (f : Str) (v : V) (u : Value) : Prop where
  at_ : PySem.W.findIn K (.ref C) f = some (some u)
  rel : RelV v u
  get : PySem.W.specialIn K u "__get__" = some none
  cp : PySem.W.copiedNames.contains f = false
/-- a method: a plain def of the class or of one above it -/
structure Meth (K : PySem.W.Frag) (C : Addr) (m : Str) (f : Addr) : Prop where
  at_ : PySem.W.findIn K (.ref C) m = some (some (.ref f))
  fn : PySem.W.isFn K (.ref f) = true
  kp : PySem.W.keepIn K (.ref f) = true

section
variable {X : Cx} {pins : List (Addr × Obj)} {σ : St} {H : Hp} {s : Shared} {a C dx : Addr} {fs : List (Str × V)} {f : Str} {v : V} {A : Around} {E : Value → Shared → Prop}

theorem getattr_ok {b : Bool} {Q : Value → Shared → Prop} (I : Inv X pins σ H s) (e : H a = some (.ins C dx fs)) (c : Cls X.K C) (n : NoAttr X.K C f) (l : fs.lookup f = some v)
    (h : ∀ u s', Inv X pins σ H s' → RelV v u → Q u s') : wpAny (model X.prog X.w) A (getAttr (.ref a) f b) Q E s := by
  obtain ⟨mA, O, r, _, _, _⟩ := ins_get I.hok e
  obtain ⟨u, hu, ru⟩ := RelO.some_of (v := v) (o := mA f) (by rw [← l]; exact r f)
  exact get_map I.kIn O (c.get f) c.hd n hu (handed_of ru) (h u _ (I.tok _) ru)

theorem getmeth_ok {m : Str} {g : Addr} {pl : Sem Bool} {Q : Value × List Value → Shared → Prop} (I : Inv X pins σ H s) (e : H a = some (.ins C dx fs)) (c : Cls X.K C) (k : Meth X.K C m g) (l : fs.lookup m = none)
    (h : Q (.ref g, [.ref a]) s) : wpAny (model X.prog X.w) A (getMethod (.ref a) m pl) Q E s := by
  obtain ⟨mA, O, r, _, _, _⟩ := ins_get I.hok e
  have hn : mA m = none := RelO.none_of (by rw [← l]; exact r m)
  exact get_meth I.kIn O (c.get m) k.at_ k.fn hn h

theorem setattr_ok {y : V} {u : Value} {Q : Unit → Shared → Prop} (I : Inv X pins σ H s) (e : H a = some (.ins C dx fs)) (c : Cls X.K C) (n : NoAttr X.K C f) (hl : fs.length < 1000) (ry : RelV y u)
    (h : ∀ s', Inv X pins σ (upd H a (.ins C dx (putF f y fs))) s' → Q () s') : wpAny (model X.prog X.w) A (setAttr (.ref a) f u) Q E s := by
  obtain ⟨mA, O, r, wi, _, ho⟩ := ins_get I.hok e
  have hz : (fs.map (·.1)).length ≤ sizeLine := by rw [List.length_map, sizeLine_eq]; omega
  refine set_map I.kIn O c.sa c.po n.taker c.hd wi hz fun h' O' sb => h _ ?_
  have hd : ∃ o, h'.get? dx = some o := let ⟨o, _, _, e', _⟩ := O'.ns; ⟨o, e'⟩
  refine I.write (x := a) (e := dx) (by rw [e]; exact True.intro) (.inr ho) (fun b q hb z => (sb.2 b hb).trans z) hd ?_
  refine ⟨by rw [upd_ne O.ne]; exact ho, ?_, O.ne, O'.obj, _, O'.ns, fun g => ?_, fun g hg => ?_⟩
  · have := length_putF f y fs; omega
  · show RelO ((putF f y fs).lookup g) (if g = f then some u else mA g)
    rw [lookup_putF]
    by_cases q : g = f
    · rw [if_pos q, if_pos q]; exact ry
    · rw [if_neg q, if_neg q]; exact r g
  · by_cases q : g = f
    · rw [q]; exact (keys_putF f y fs).1
    · refine (keys_putF f y fs).2 g (wi g fun z => hg ?_)
      show (if g = f then some u else mA g) = none
      rw [if_neg q]; exact z

/-- a new instance, tracked, without attributes -/
theorem Inv.made (I : Inv X pins σ H s) : Inv X pins σ (upd (upd H s.heap.objs.size (.own (s.heap.objs.size + 1))) (s.heap.objs.size + 1) (.ins C s.heap.objs.size []))
    { s with heap := (s.heap.push PySem.W.emptyDict).push (PySem.W.instObj C s.heap.objs.size) } := by
  have e1 : (s.heap.push PySem.W.emptyDict).get? s.heap.objs.size = some PySem.W.emptyDict := Heap.get?_push_size s.heap rfl
  have e2 : ((s.heap.push PySem.W.emptyDict).push (PySem.W.instObj C s.heap.objs.size)).get? (s.heap.objs.size + 1) = some (PySem.W.instObj C s.heap.objs.size) := by
    have := Heap.get?_push_size (s.heap.push PySem.W.emptyDict) (o := PySem.W.instObj C s.heap.objs.size) rfl
    rwa [Heap.size_push] at this
  have e3 : (s.heap.push PySem.W.emptyDict).Ns s.heap.objs.size (fun _ => none) := ⟨PySem.W.emptyDict, #[], _, e1, rfl, (fun e he => absurd he (by simp)), fun _ => rfl⟩
  have I1 := I.laid (a := s.heap.objs.size) (o := .own (s.heap.objs.size + 1)) (h' := s.heap.push PySem.W.emptyDict) (t' := s.toks) (fun b u q => Heap.get?_push_of_some _ q) (Nat.le_refl _) ⟨_, e1⟩
  refine I1.laid (a := s.heap.objs.size + 1) (o := .ins C s.heap.objs.size []) (t' := s.toks) (fun b u q => Heap.get?_push_of_some _ q) (Nat.le_of_eq (Heap.size_push _ _)) ?_
  have ne : s.heap.objs.size ≠ s.heap.objs.size + 1 := Nat.ne_of_lt (Nat.lt_succ_self _)
  refine ⟨by rw [upd_ne ne, upd_same], Nat.zero_le _, ne, e2, fun _ => none, (Heap.Ns1.of_empty e3).at fun o q => Heap.get?_push_of_some _ q, fun _ => True.intro, fun y hy => absurd rfl hy⟩

/-- e.f where nothing but the object is asked: through attributeBase (super) and the last hold -/
theorem attr_of {prog : Program} {w : World} {env : Env} {e : Expr} {f : Str} {pos : Pos} {s : Shared} {Q : Value → Shared → Prop} (hb : attributeBase e f env (eval e env) = eval e env)
    (h : wpAny (model prog w) A (eval e env) (fun o s₁ => wpAny (model prog w) A (getAttr o f true) Q E s₁) E s) : wpAny (model prog w) A (eval (.Attribute e f pos) env) Q E s :=
  Attribute_any_ h (by rw [arm_eval_Attribute, hb])
end

/-! ### readings and rules -/
/-- e.f, an attribute of the instance -/
def tFld (K : PySem.W.Frag) (ta : TE) (f : Str) : TE := fun σ H Q => ta σ H fun x H1 => ∃ a C dx fs v, x = .ref a ∧ H1 a = some (.ins C dx fs) ∧ Cls K C ∧ NoAttr K C f ∧ fs.lookup f = some v ∧ Q v H1
/-- e.f, a constant of the class -/
def tCon (K : PySem.W.Frag) (ta : TE) (f : Str) : TE := fun σ H Q => ta σ H fun x H1 => ∃ a C dx fs v u, x = .ref a ∧ H1 a = some (.ins C dx fs) ∧ Cls K C ∧ Con K C f v u ∧ fs.lookup f = none ∧ Q v H1
/-- e.f = value -/
def sFld (K : PySem.W.Frag) (ta tv : TE) (f : Str) : TS := fun D σ H => tv σ H fun y H1 => ta σ H1 fun x H2 => ∃ a C dx fs, x = .ref a ∧ H2 a = some (.ins C dx fs) ∧ Cls K C ∧ NoAttr K C f ∧ fs.length < 1000 ∧
  D.nx σ (upd H2 a (.ins C dx (putF f y fs)))
/-- an augmented operator on two values -/
def InOp (X : Cx) (op : Operator) (rd : V → V → Hp → VK → Prop) : Prop :=
  ∀ (pins : List (Addr × Obj)) (s : Shared) (σ : St) (H : Hp) (x y : V) (u v : Value) (Q : VK), Inv X pins σ H s → RelV x u → RelV y v → rd x y H Q → wpAny (model X.prog X.w) X.A (inplaceOp op u v) (EP X pins σ Q) X.xe s
/-- e.f op= value -/
def sFldAug (K : PySem.W.Frag) (ta tv : TE) (rd : V → V → Hp → VK → Prop) (f : Str) : TS := fun D σ H => ta σ H fun x H1 => ∃ a C dx fs v, x = .ref a ∧ H1 a = some (.ins C dx fs) ∧ Cls K C ∧ NoAttr K C f ∧ fs.lookup f = some v ∧
  tv σ H1 fun y H2 => rd v y H2 fun z H3 => ∃ dx' fs', H3 a = some (.ins C dx' fs') ∧ fs'.length < 1000 ∧ D.nx σ (upd H3 a (.ins C dx' (putF f z fs')))

section
variable {X : Cx} {o e value : Expr} {f : Str} {pos pos' tpos : Pos} {ta tv : TE}
theorem pe_fld (he : PE X e ta) (hb : attributeBase e f X.env (eval e X.env) = eval e X.env) : PE X (.Attribute e f pos) (tFld X.K ta f) := by
  intro pins s σ H Q I h
  refine attr_of hb (thn (he pins s σ H _ I h) fun u s1 ⟨x, H1, I1, rx, a, C, dx, fs, v, ex, ea, c, n, l, q⟩ => ?_)
  subst ex
  obtain rfl : u = Value.ref a := rx
  exact getattr_ok I1 ea c n l fun u' s2 I2 ru => ⟨v, H1, I2, ru, q⟩
theorem ps_fld (ha : PE X o ta) (hv : PE X value tv) (hs : swapsWith value (some (.Attribute o f pos')) pos.line X.env = pure false) : PS X (.Assign [.Attribute o f pos'] value pos) (sFld X.K ta tv f) := by
  intro pins s σ H D I h
  refine plainObj_wpAny_Assign_Attribute (thn (hv pins s σ H _ I h) fun u s1 ⟨y, H1, I1, ry, q⟩ => thn (ha pins s1 σ H1 _ I1 q) fun ov s2 ⟨x, H2, I2, rx, a, C, dx, fs, ex, ea, c, n, l, q2⟩ => ?_) hs
  subst ex
  obtain rfl : ov = Value.ref a := rx
  exact setattr_ok I2 ea c n l ry fun s3 I3 => ⟨σ, _, I3, q2⟩
def rAdd : V → V → Hp → VK → Prop := fun x y H Q => ∃ i j, x = .int i ∧ y = .int j ∧ Q (.int (i + j)) H
def rSub : V → V → Hp → VK → Prop := fun x y H Q => ∃ i j, x = .int i ∧ y = .int j ∧ Q (.int (i - j)) H
/-- what is between an instance and its method: the tree of a method call -/
theorem methcall_of {pl : Sem Bool} {m : Str} {apos : Pos} {args : List Expr} {pins : List (Addr × Obj)} {s : Shared} {σ : St} {H : Hp} {Q : Value → Shared → Prop} {te : TE} (he : PE X e te) (I : Inv X pins σ H s)
    (h : te σ H fun x H1 => ∃ a C dx fs g, x = .ref a ∧ H1 a = some (.ins C dx fs) ∧ Cls X.K C ∧ Meth X.K C m g ∧ fs.lookup m = none ∧
      ∀ s1, Inv X pins σ H1 s1 → wpAny (model X.prog X.w) X.A (callWith pos (.ref g) [.ref a] (backTo pos (starEach args X.env)) (backToKw pos (keywordEach [] X.env))) Q X.xe s1)
    (ht : eval (.Call (.Attribute e m apos) args [] pos) X.env = (do
      let ov ← eval e X.env
      standAt apos.atName
      let (f, first) ← holding [ov] (getMethod ov m pl)
      callWith pos f first (backTo pos (starEach args X.env)) (backToKw pos (keywordEach [] X.env)))) :
    wpAny (model X.prog X.w) X.A (eval (.Call (.Attribute e m apos) args [] pos) X.env) Q X.xe s := by
  refine PySem.W.methodCall_KW (pl := pl) (thn (he pins s σ H _ I h) fun u s1 ⟨x, H1, I1, rx, a, C, dx, fs, g, ex, ea, c, k, l, q⟩ => ?_) ht
  subst ex
  obtain rfl : u = Value.ref a := rx
  exact getmeth_ok I1 ea c k l (q s1 I1)
end

/-! ### isinstance -/
section
variable {X : Cx} {pins : List (Addr × Obj)} {σ : St} {H : Hp} {s : Shared} {A : Around} {E : Value → Shared → Prop} {Q : Value → Shared → Prop} {c : Value} {b : Bool}
/-- the type of a value, as the fragment's deciders take it; for an instance its class -/
inductive TyOf (K : PySem.W.Frag) (H : Hp) : V → Value → Prop where
  | non : TyOf K H .non (.type "NoneType")
  | bl (x : Bool) : TyOf K H (.bl x) (.type "bool")
  | int (i : Int) : TyOf K H (.int i) (.type "int")
  | str (x : Str) : TyOf K H (.str x) (.type "str")
  | flt (x : UInt64) : TyOf K H (.flt x) (.type "float")
  | lst {a : Addr} {xs : List V} (e : H a = some (.lst xs)) : TyOf K H (.ref a) (.type "list")
  | frz {a : Addr} {o : Obj} {xs : List V} (e : H a = some (.frz o (.lst xs))) : TyOf K H (.ref a) (.type "list")
  | tup {a : Addr} {xs : List V} (e : H a = some (.tup xs)) : TyOf K H (.ref a) (.type "tuple")
  | dK {a : Addr} {kvs : List (Key × V)} (e : H a = some (.dK kvs)) : TyOf K H (.ref a) (.type "dict")
  | dT {a : Addr} {kvs : List (List Key × V)} (e : H a = some (.dT kvs)) : TyOf K H (.ref a) (.type "dict")
  | ins {a C dx : Addr} {fs : List (Str × V)} (e : H a = some (.ins C dx fs)) (cl : Cls K C) (ha : PySem.W.findIn K (.ref C) "__class__" = some (some (.builtin "object.__class__")))
      (hn : PySem.W.specialIn K (.builtin "object.__class__") "__get__" = some (some (.builtin "getset_descriptor.__get__"))) (htk : PySem.W.takesIn K (.builtin "object.__class__") = some true)
      (hm : PySem.W.mroIn K C (.type "object") = some true) : TyOf K H (.ref a) (.ref C)
end
end L2

namespace L2
open PySem PySem.Spec PyProof.Rows

/-! ### room -/
structure Room (k : Nat) (A : Around) : Prop where
  hd : A.handled = none
  dp : A.depth + 3 * k + 5 < recursionLimit
  un : A.units + 16 * k + 200 < cLine
theorem Room.mono {j k : Nat} {A : Around} (r : Room k A) (h : j ≤ k) : Room j A := ⟨r.hd, by have := r.dp; omega, by have := r.un; omega⟩
theorem Room.deeper {k : Nat} {A : Around} (r : Room (k + 1) A) (env : Env) : Room k (A.deeper env) :=
  ⟨r.hd, by have := r.dp; show A.depth + 1 + 3 * k + 5 < _; omega, by have := r.un; show A.units + 3 + 16 * k + 200 < _; omega⟩
theorem make_depth {A : Around} {C : Addr} {us : List Value} {kw : List (Str × Value)} : (A.under (.builtin "type.__call__" ⟨.ref C :: us, kw⟩)).depth = A.depth + 1 := by
  first | rfl | simp [Around.under, Code.weight, Code.isCreation, Code.isGuard, Code.isCaller, Code.frames, Code.isFrame, guardIds]
theorem make_units {A : Around} {C : Addr} {us : List Value} {kw : List (Str × Value)} : (A.under (.builtin "type.__call__" ⟨.ref C :: us, kw⟩)).units = A.units + 1 := by
  first | rfl | simp [Around.under, Code.cUnits, Code.frames, Code.isFrame]
theorem Room.make {k : Nat} {A : Around} (r : Room (k + 1) A) (C : Addr) (us : List Value) (kw : List (Str × Value)) : Room k (A.under (.builtin "type.__call__" ⟨.ref C :: us, kw⟩)) :=
  ⟨r.hd, by have := r.dp; rw [make_depth]; omega, by have := r.un; rw [make_units]; omega⟩
theorem Room.depth {k : Nat} {A : Around} (r : Room k A) : A.depth < recursionLimit := by have := r.dp; omega
theorem Room.units {k : Nat} {A : Around} (r : Room k A) : A.units + 64 < cLine := by have := r.un; omega
/-! ### argument lists and displays -/
def tNil : TA := fun _ H Q => Q [] H
def tCons (ta : TE) (tr : TA) : TA := fun σ H Q => ta σ H fun x H1 => tr σ H1 fun xs H2 => Q (x :: xs) H2
section
variable {X : Cx} {e : Expr} {es : List Expr} {te : TE} {t : TA} {pos : Pos}
theorem pa_nil : PA X [] tNil := fun _ _ _ _ H Q I h => Calls.spliced_nil ⟨[], H, I, .nil, h⟩
theorem pa_cons (ha : PE X e te) (hr : PA X es t) (hs : starEach (e :: es) X.env = (false, eval e X.env) :: starEach es X.env := by rfl) : PA X (e :: es) (tCons te t) := by
  intro pos pins s σ H Q I h
  rw [hs]
  show wpAny _ _ (spliced ((false, eval e X.env) :: backTo pos (starEach es X.env))) _ _ s
  refine Calls.spliced_cons (thn (ha pins s σ H _ I h) fun u s1 ⟨x, H1, I1, r1, q1⟩ => ?_)
  exact thn (hr pos pins s1 σ H1 _ I1 q1) fun us s2 ⟨xs, H2, I2, r2, q2⟩ => ⟨x :: xs, H2, I2, .cons r1 r2, q2⟩

/-- a tuple, a list of written items -/
def tTup (t : TA) : TE := fun σ H Q => t σ H fun xs H1 => xs.length ≤ sizeLine ∧ ∀ p, H1 p = none → Q (.ref p) (upd H1 p (.tup xs))
def tLst (t : TA) : TE := fun σ H Q => t σ H fun xs H1 => xs.length ≤ sizeLine ∧ ∀ p, H1 p = none → Q (.ref p) (upd H1 p (.lst xs))
theorem pe_tup {x1} (h : PA X es t) : PE X (.Tuple es x1 pos) (tTup t) := by
  intro pins s σ H Q I hq
  refine wpAny_Tuple_spliced (thn (h pos pins s σ H _ I hq) fun us s1 ⟨xs, H1, I1, r, z, q⟩ => ⟨by rw [← r.length]; exact z, ?_⟩)
  have hf : H1 s1.heap.objs.size = none := I1.hok.fresh (Nat.le_refl _)
  refine ⟨.ref s1.heap.objs.size, upd H1 s1.heap.objs.size (.tup xs), I1.laid (t' := s1.toks) (fun b u e => Heap.get?_push_of_some _ e) (Nat.le_refl _) ?_, rfl, q _ hf⟩
  exact ⟨z, us, r, ⟨_, Heap.get?_push_size _ rfl, rfl, _, rfl⟩⟩
theorem pe_lst (h : PA X es t) : PE X (.List es pos) (tLst t) := by
  intro pins s σ H Q I hq
  refine wpAny_List_spliced (thn (h pos pins s σ H _ I hq) fun us s1 ⟨xs, H1, I1, r, z, q⟩ => ⟨by rw [← r.length]; exact z, ?_⟩)
  have hf : H1 s1.heap.objs.size = none := I1.hok.fresh (Nat.le_refl _)
  refine ⟨.ref s1.heap.objs.size, upd H1 s1.heap.objs.size (.lst xs), I1.laid (t' := s1.toks) (fun b u e => Heap.get?_push_of_some _ e) (Nat.le_refl _) ?_, rfl, q _ hf⟩
  exact ⟨z, us, 0, r, Heap.get?_push_size _ rfl⟩
end

/-! ### what a def promises -/
/-- a def's promise: the bound arguments in the parameters' order, the heap, the wanted end, the wanted exception -/
abbrev Sp := List V → Hp → VK → XK → Prop
/-- how an exception lies behind a call (file 08 gives it): the callers' frames, abstract heap and state ahead of the call, the wish, the exception, the state -/
abbrev CXT := List Env → Hp → Shared → XK → Value → Shared → Prop

/-- the state at a call -/
structure Env0 (P : Program) (w : World) (K : PySem.W.Frag) (mg : Str → Option Value) (base : Heap) (A : Around) (outer : List Env) (s : Shared) (H : Hp) : Prop where
  frames : A.frames = some outer
  mod : Mod K mg base
  bs : ∀ b o, base.get? b = some o → s.heap.get? b = some o ∧ H b = none
  bsz : base.objs.size ≤ s.heap.objs.size
  funs : s.heap.FunFrames base outer
  frf : ∀ b ∈ frs outer, H b = none
  hok : HOk P w H s.heap
  bare : AllBare s.gens
/-- a call's end -/
def CE (outer : List Env) (P : Program) (w : World) (H : Hp) (s : Shared) (Q : VK) (u : Value) (s' : Shared) : Prop :=
  ∃ v H', s'.os = s.os ∧ AllBare s'.gens ∧ Un (frs outer) [] H H' s.heap s'.heap ∧ HOk P w H' s'.heap ∧ RelV v u ∧ Q v H'
def CR (CX : CXT) (outer : List Env) (P : Program) (w : World) (H : Hp) (s : Shared) (Q : VK) (E : XK) (r : Result) (s' : Shared) : Prop :=
  match r with
  | .ok (.ret u) => CE outer P w H s Q u s'
  | .ok _ => False
  | .error e => CX outer H s E e s'
structure FnOk (P : Program) (w : World) (K : PySem.W.Frag) (mg : Str → Option Value) (base : Heap) (CX : CXT) (k : Nat) (f : Addr) (fd : FuncData) (ps : List Str) (sp : Sp) : Prop where
  len : ∀ vs H Q E, sp vs H Q E → vs.length = ps.length
  run : ∀ (A : Around) (outer : List Env) (s : Shared) (H : Hp) (args : Args) (us : List Value) (vs : List V) (Q : VK) (E : XK), Room k A → Env0 P w K mg base A outer s H → BindsTo s fd args (ps.zip us) → Vals vs us → sp vs H Q E →
    codeAny (model P w) A (.call (.ref f) args) (CR CX outer P w H s Q E) s
theorem Env0.make {P : Program} {w : World} {K : PySem.W.Frag} {mg : Str → Option Value} {base : Heap} {A : Around} {outer : List Env} {s : Shared} {H : Hp} (e : Env0 P w K mg base A outer s H) (C : Addr) (us : List Value) (kw : List (Str × Value)) :
    Env0 P w K mg base (A.under (.builtin "type.__call__" ⟨.ref C :: us, kw⟩)) outer s H := ⟨by first | exact e.frames | (simpa [Around.under, Code.envs, Code.isFrame, pushEnvs] using e.frames), e.mod, e.bs, e.bsz, e.funs, e.frf, e.hok, e.bare⟩
section
variable {X : Cx} {pins : List (Addr × Obj)} {σ : St} {H : Hp} {s s' : Shared}
/-- from a body: what a callee wants -/
theorem Inv.env0 (I : Inv X pins σ H s) : Env0 X.prog X.w X.K X.mg X.base X.A X.stack s H :=
  ⟨I.ok.frames, I.ok.mod, I.bs, Nat.le_trans I.ok.bsz I.sz, I.stack, I.stkFree, I.hok, I.bare⟩
/-- behind a call -/
theorem Inv.after {Q : VK} {u : Value} (I : Inv X pins σ H s) (h : CE X.stack X.prog X.w H s Q u s') : EP X pins σ Q u s' := by
  obtain ⟨v, H', os, bare, un, hok, r, q⟩ := h
  obtain ⟨hh, g, d, t, os'⟩ := s'
  obtain rfl : os' = s.os := os
  exact ⟨v, H', I.call (h' := hh) (g' := g) (d' := d) (t' := t) (ch := []) un hok bare (fun b z => absurd z (by simp)), r, q⟩
end

/-! ### calls -/
/-- f(..): the written arguments, then the defaults dvs; E: what is wanted of an exception -/
def tCall (sp : Sp) (dvs : List V) (E : XK) (t : TA) : TE := fun σ H Q => t σ H fun vs H1 => sp (vs ++ dvs) H1 Q E
/-- o.m(..) of an instance of the class at C -/
def tMeth (C : Addr) (m : Str) (sp : Sp) (dvs : List V) (E : XK) (ta : TE) (t : TA) : TE := fun σ H Q => ta σ H fun x H1 => ∃ a dx fs, x = .ref a ∧ H1 a = some (.ins C dx fs) ∧ fs.lookup m = none ∧
  t σ H1 fun vs H2 => sp (x :: (vs ++ dvs)) H2 Q E
/-- C(..): a new instance and its dict, then __init__ -/
def tMake (C : Addr) (sp : Sp) (dvs : List V) (E : XK) (t : TA) : TE := fun σ H Q => t σ H fun vs H1 => ∀ x dx, H1 x = none → H1 dx = none → dx ≠ x →
  sp (.ref x :: (vs ++ dvs)) (upd (upd H1 dx (.own x)) x (.ins C dx [])) (fun v H2 => v = .non ∧ Q (.ref x) H2) E

/-- how the parameters are bound: us the positional arguments, kw the keywords' values by name, ds the defaults that fill up -/
def Binds (K : PySem.W.Frag) (fd : FuncData) (ps : List Str) (ds : List Value) : Prop :=
  ∀ (s : Shared) (us : List Value), K.In s.heap → (us ++ ds).length = ps.length → BindsTo s fd ⟨us, []⟩ (ps.zip (us ++ ds))
/-- every parameter is given -/
theorem Binds.all {K : PySem.W.Frag} {fd : FuncData} {ps : List Str} (h : ∀ us : List Value, us.length = ps.length → bindArgs fd ⟨us, []⟩ = pure (ps.zip us)) : Binds K fd ps [] := fun s us _ hl => by
  rw [List.append_nil] at hl ⊢
  exact .of_eq (h us hl)

/-- an exception of a callee reaches what this body wants of exceptions -/
def Passes (CX : CXT) (X : Cx) (E : XK) : Prop := ∀ (pins : List (Addr × Obj)) (σ : St) (H : Hp) (s : Shared) (e : Value) (s' : Shared), Inv X pins σ H s → CX X.stack H s E e s' → X.xe e s'

section
variable {X : Cx} {CX : CXT} {k : Nat} {f C : Addr} {fd : FuncData} {ps : List Str} {sp : Sp} {dvs : List V} {ds : List Value} {E : XK} {x m : Str} {p pos apos : Pos} {e o : Expr} {es : List Expr} {ta : TE} {t : TA}

/-- the callee runs -/
theorem run_fn {pins : List (Addr × Obj)} {σ : St} {H : Hp} {s : Shared} {Q : VK} {us : List Value} {vs : List V} (F : FnOk X.prog X.w X.K X.mg X.base CX k f fd ps sp) (hr : Room k X.A) (hb : Binds X.K fd ps ds) (hd : Vals dvs ds) (hx : Passes CX X E)
    (I : Inv X pins σ H s) (r : Vals vs us) (h : sp (vs ++ dvs) H Q E) : wpAny (model X.prog X.w) X.A (call (.ref f) us) (EP X pins σ Q) X.xe s := by
  have r2 : Vals (vs ++ dvs) (us ++ ds) := r.append hd
  have hl : (us ++ ds).length = ps.length := by rw [← r2.length]; exact F.len _ _ _ _ h
  refine wpAny_call (codeAny_mono (F.run X.A X.stack s H ⟨us, []⟩ (us ++ ds) (vs ++ dvs) Q E hr I.env0 (hb s us I.kIn hl) r2 h) fun r s' hq => ?_)
  cases r with
  | error e => exact hx pins σ H s e s' I hq
  | ok fl =>
    cases fl with
    | ret u => exact I.after hq
    | next => exact False.elim hq
    | brk => exact False.elim hq
    | cont => exact False.elim hq

theorem pe_call (F : FnOk X.prog X.w X.K X.mg X.base CX k f fd ps sp) (hr : Room k X.A) (hg : Gl X x) (hm : X.mg x = some (.ref f)) (hk : PySem.W.keepIn X.K (.ref f) = true) (hb : Binds X.K fd ps ds) (hd : Vals dvs ds) (hx : Passes CX X E)
    (ha : PA X (e :: es) t) (hdb : (x == ("__debug__" : Str)) = false := by decide) (he : starEach (e :: es) X.env = (false, eval e X.env) :: starEach es X.env := by rfl) (hpl : (backTo pos (starEach es X.env)).any (·.1) = false := by rfl) :
    PE X (.Call (.Name x p) (e :: es) [] pos) (tCall sp dvs E t) := by
  intro pins s σ H Q I h
  refine wpAny_Call_Name_kw (ld_glob I hg hm ?_ hdb)
  refine PySem.W.callWith_K (h₀ := X.base) I.ok.mod.kin hk (thn (ha pos pins s σ H _ I h) fun us s1 ⟨vs, H1, I1, r, q⟩ => ⟨I1.kIn, ?_⟩) he hpl
  exact run_fn F hr hb hd hx I1 r q
theorem pe_call0 (F : FnOk X.prog X.w X.K X.mg X.base CX k f fd ps sp) (hr : Room k X.A) (hg : Gl X x) (hm : X.mg x = some (.ref f)) (hk : PySem.W.keepIn X.K (.ref f) = true) (hb : Binds X.K fd ps ds) (hd : Vals dvs ds) (hx : Passes CX X E)
    (hdb : (x == ("__debug__" : Str)) = false := by decide) : PE X (.Call (.Name x p) [] [] pos) (tCall sp dvs E tNil) := by
  intro pins s σ H Q I h
  refine wpAny_Call_Name_kw (ld_glob I hg hm ?_ hdb)
  exact PySem.W.callWith_K0 I.kIn hk (run_fn (us := []) F hr hb hd hx I .nil h)

/-- o.m(e, ..) -/
theorem pe_meth {pl : Sem Bool} (he : PE X o ta) (c : Cls X.K C) (hm : Meth X.K C m f) (F : FnOk X.prog X.w X.K X.mg X.base CX k f fd ps sp) (hr : Room k X.A) (hb : Binds X.K fd ps ds) (hd : Vals dvs ds) (hx : Passes CX X E) (ha : PA X (e :: es) t)
    (hst : starEach (e :: es) X.env = (false, eval e X.env) :: starEach es X.env := by rfl) (hpl : (backTo pos (starEach es X.env)).any (·.1) = false := by rfl)
    (ht : eval (.Call (.Attribute o m apos) (e :: es) [] pos) X.env = (do
      let ov ← eval o X.env
      standAt apos.atName
      let (f, first) ← holding [ov] (getMethod ov m pl)
      callWith pos f first (backTo pos (starEach (e :: es) X.env)) (backToKw pos (keywordEach [] X.env))) := by rfl) :
    PE X (.Call (.Attribute o m apos) (e :: es) [] pos) (tMeth C m sp dvs E ta t) := by
  intro pins s σ H Q I h
  refine PySem.W.methodCall_KW (pl := pl) (thn (he pins s σ H _ I h) fun u s1 ⟨x, H1, I1, rx, a, dx, fs, ex, ea, l, q⟩ => ?_) ht
  subst ex
  obtain rfl : u = Value.ref a := rx
  refine getmeth_ok I1 ea c hm l ?_
  refine PySem.W.callWith_K (first := [.ref a]) (h₀ := X.base) I.ok.mod.kin hm.kp (thn (ha pos pins s1 σ H1 _ I1 q) fun us s2 ⟨vs, H2, I2, r, q2⟩ => ⟨I2.kIn, ?_⟩) hst hpl
  exact run_fn (us := .ref a :: us) (vs := .ref a :: vs) F hr hb hd hx I2 (.cons rfl r) q2
/-- o.m() -/
theorem pe_meth0 {pl : Sem Bool} (he : PE X o ta) (c : Cls X.K C) (hm : Meth X.K C m f) (F : FnOk X.prog X.w X.K X.mg X.base CX k f fd ps sp) (hr : Room k X.A) (hb : Binds X.K fd ps ds) (hd : Vals dvs ds) (hx : Passes CX X E)
    (ht : eval (.Call (.Attribute o m apos) [] [] pos) X.env = (do
      let ov ← eval o X.env
      standAt apos.atName
      let (f, first) ← holding [ov] (getMethod ov m pl)
      callWith pos f first (backTo pos (starEach [] X.env)) (backToKw pos (keywordEach [] X.env))) := by rfl) :
    PE X (.Call (.Attribute o m apos) [] [] pos) (tMeth C m sp dvs E ta tNil) := by
  intro pins s σ H Q I h
  refine PySem.W.methodCall_KW (pl := pl) (thn (he pins s σ H _ I h) fun u s1 ⟨x, H1, I1, rx, a, dx, fs, ex, ea, l, q⟩ => ?_) ht
  subst ex
  obtain rfl : u = Value.ref a := rx
  refine getmeth_ok I1 ea c hm l ?_
  exact PySem.W.callWith_K0 (first := [.ref a]) I1.kIn hm.kp (run_fn (us := [.ref a]) (vs := [.ref a]) F hr hb hd hx I1 (.cons rfl .nil) q)

/-- what a class must have to be made -/
structure Mk (K : PySem.W.Frag) (C f : Addr) : Prop where
  makes : PySem.W.makesIn K C = true
  init : PySem.W.findIn K (.ref C) "__init__" = some (some (.ref f))
  fn : PySem.W.isFn K (.ref f) = true
  kp : PySem.W.keepIn K (.ref C) = true

theorem run_make {pins : List (Addr × Obj)} {σ : St} {H : Hp} {s : Shared} {Q : VK} {us : List Value} {vs : List V} (M : Mk X.K C f) (F : FnOk X.prog X.w X.K X.mg X.base CX k f fd ps sp) (hr : Room (k + 1) X.A) (hb : Binds X.K fd ps ds) (hd : Vals dvs ds)
    (hx : Passes CX X E) (I : Inv X pins σ H s) (r : Vals vs us)
    (h : ∀ x dx, H x = none → H dx = none → dx ≠ x → sp (.ref x :: (vs ++ dvs)) (upd (upd H dx (.own x)) x (.ins C dx [])) (fun v H2 => v = .non ∧ Q (.ref x) H2) E) :
    wpAny (model X.prog X.w) X.A (call (.ref C) us) (EP X pins σ Q) X.xe s := by
  have hq := h (s.heap.objs.size + 1) s.heap.objs.size (I.hok.fresh (Nat.le_succ _)) (I.hok.fresh (Nat.le_refl _)) (Nat.ne_of_lt (Nat.lt_succ_self _))
  have I2 := Inv.made (C := C) I
  have r2 : Vals (V.ref (s.heap.objs.size + 1) :: (vs ++ dvs)) (Value.ref (s.heap.objs.size + 1) :: (us ++ ds)) := .cons rfl (r.append hd)
  have hl : (Value.ref (s.heap.objs.size + 1) :: us ++ ds).length = ps.length := by
    have e := r2.length
    rw [F.len _ _ _ _ hq] at e
    exact e.symm
  refine wpAny_call (make_map (f := f) I.kIn M.makes M.init (beq_iff_eq.mp M.fn) (codeAny_mono (F.run _ X.stack _ _ ⟨Value.ref (s.heap.objs.size + 1) :: us, []⟩ (Value.ref (s.heap.objs.size + 1) :: (us ++ ds)) _ _ E (hr.make C us [])
    (I2.env0.make C us []) (hb _ (Value.ref (s.heap.objs.size + 1) :: us) I2.kIn hl) r2 hq) fun r s' hq' => ?_))
  cases r with
  | error e => exact hx pins σ _ _ e s' I2 hq'
  | ok fl =>
    cases fl with
    | ret u =>
      obtain ⟨v, H', I3, rv, ev, q3⟩ := I2.after hq'
      subst ev
      exact ⟨rv, ⟨V.ref (s.heap.objs.size + 1), H', I3, rfl, q3⟩⟩
    | next => exact False.elim hq'
    | brk => exact False.elim hq'
    | cont => exact False.elim hq'
theorem pe_make0 (M : Mk X.K C f) (F : FnOk X.prog X.w X.K X.mg X.base CX k f fd ps sp) (hr : Room (k + 1) X.A) (hg : Gl X x) (hm : X.mg x = some (.ref C)) (hb : Binds X.K fd ps ds) (hd : Vals dvs ds) (hx : Passes CX X E)
    (hdb : (x == ("__debug__" : Str)) = false := by decide) : PE X (.Call (.Name x p) [] [] pos) (tMake C sp dvs E tNil) := by
  intro pins s σ H Q I h
  refine wpAny_Call_Name_kw (ld_glob I hg hm ?_ hdb)
  exact PySem.W.callWith_K0 I.kIn M.kp (run_make (us := []) M F hr hb hd hx I .nil h)
end

/-! ### keywords -/
/-- the values of the keywords, from the left -/
def PK (X : Cx) (kws : List Keyword) (t : TA) : Prop :=
  ∀ (pos : Pos) (pins : List (Addr × Obj)) (s : Shared) (σ : St) (H : Hp) (Q : List V → Hp → Prop), Inv X pins σ H s → t σ H Q → wpAny (model X.prog X.w) X.A (evalAll ((backToKw pos (keywordEach kws X.env)).map (·.2))) (AP X pins σ Q) X.xe s
section
variable {X : Cx} {CX : CXT} {k : Nat} {f C : Addr} {fd : FuncData} {ps ks : List Str} {sp : Sp} {E : XK} {x m : Str} {p pos apos kpos : Pos} {e o : Expr} {es : List Expr} {kws : List Keyword} {te ta : TE} {t tk : TA} {nm : Option Str}
/-- how a call with keywords binds: g puts the positional values us and the keywords' values ws (names ks) in the parameters' order, defaults among them -/
structure KBinds (K : PySem.W.Frag) (fd : FuncData) (ps ks : List Str) (g : List Value → List Value → List Value) (gV : List V → List V → List V) : Prop where
  to : ∀ (s : Shared) (us ws : List Value), K.In s.heap → (g us ws).length = ps.length → BindsTo s fd ⟨us, ks.zip ws⟩ (ps.zip (g us ws))
  rel : ∀ {vs : List V} {us : List Value} {zs : List V} {ws : List Value}, Vals vs us → Vals zs ws → Vals (gV vs zs) (g us ws)
def tCallK (sp : Sp) (gV : List V → List V → List V) (E : XK) (t tk : TA) : TE := fun σ H Q => t σ H fun vs H1 => tk σ H1 fun zs H2 => sp (gV vs zs) H2 Q E
variable {g : List Value → List Value → List Value} {gV : List V → List V → List V}
end

/-! ### a def's body keeps its promise -/
/-- names: the parameters first -/
structure FnScope (N P : List Str) (sc : Scope) : Prop where
  kind : sc.kind = .function
  co : sc.isCoroutine = false
  gen : sc.isGenerator = false
  nd : N.Nodup
  pre : N.take P.length = P
  par : ∀ x ∈ P, sc.names.lookup x = some .local ∨ sc.names.lookup x = some .cell
  nofree : ∀ y ∈ sc.names, y.2 ≠ .free

theorem bindL_out {kindOf : Str → Option NameKind} {x : Str} : ∀ {binds : List (Str × Value)} {m : Str → Option Value}, (∀ v, (x, v) ∉ binds) → bindL kindOf binds m x = m x
  | [], _, _ => rfl
  | (n, v) :: r, m, h => by
    unfold bindL
    rw [bindL_out fun w hw => h w (List.mem_cons_of_mem _ hw)]
    split
    · have : x ≠ n := by rintro rfl; exact h v List.mem_cons_self
      simp [this]
    · rfl
theorem bindC_out {kindOf : Str → Option NameKind} {x : Str} : ∀ {binds : List (Str × Value)} {m : Str → Option Value}, (∀ v, (x, v) ∉ binds) → bindC kindOf binds m x = m x
  | [], _, _ => rfl
  | (n, v) :: r, m, h => by
    unfold bindC
    rw [bindC_out fun w hw => h w (List.mem_cons_of_mem _ hw)]
    split
    · rfl
    · have : x ≠ n := by rintro rfl; exact h v List.mem_cons_self
      simp [this]
theorem bindL_get {kindOf : Str → Option NameKind} {x : Str} {v : Value} : ∀ {P : List Str} {vs : List Value} {i : Nat} {m : Str → Option Value}, P.Nodup → P[i]? = some x → vs[i]? = some v → kindOf x = some .local →
    bindL kindOf (P.zip vs) m x = some v
  | [], _, _, _, _, h, _, _ => by simp at h
  | _ :: _, [], _, _, _, _, h, _ => by simp at h
  | p :: P, w :: vs, 0, m, nd, h1, h2, hk => by
    simp at h1 h2; subst h1; subst h2
    show bindL kindOf ((p, w) :: P.zip vs) m p = _
    unfold bindL
    rw [bindL_out fun v hv => (List.nodup_cons.mp nd).1 (List.of_mem_zip hv).1, if_pos hk]
    simp
  | p :: P, w :: vs, i + 1, m, nd, h1, h2, hk => by
    show bindL kindOf ((p, w) :: P.zip vs) m x = _
    unfold bindL
    exact bindL_get (i := i) (List.nodup_cons.mp nd).2 (by simpa using h1) (by simpa using h2) hk
theorem bindC_get {kindOf : Str → Option NameKind} {x : Str} {v : Value} : ∀ {P : List Str} {vs : List Value} {i : Nat} {m : Str → Option Value}, P.Nodup → P[i]? = some x → vs[i]? = some v → kindOf x ≠ some .local →
    bindC kindOf (P.zip vs) m x = some v
  | [], _, _, _, _, h, _, _ => by simp at h
  | _ :: _, [], _, _, _, _, h, _ => by simp at h
  | p :: P, w :: vs, 0, m, nd, h1, h2, hk => by
    simp at h1 h2; subst h1; subst h2
    show bindC kindOf ((p, w) :: P.zip vs) m p = _
    unfold bindC
    rw [bindC_out fun v hv => (List.nodup_cons.mp nd).1 (List.of_mem_zip hv).1, if_neg hk]
    simp
  | p :: P, w :: vs, i + 1, m, nd, h1, h2, hk => by
    show bindC kindOf ((p, w) :: P.zip vs) m x = _
    unfold bindC
    exact bindC_get (i := i) (List.nodup_cons.mp nd).2 (by simpa using h1) (by simpa using h2) hk

/-- the names' values at the entry -/
def start (N : List Str) (vs : List V) : St := vs.map some ++ List.replicate (N.length - vs.length) none

/-- the context of a def's body, at its entry; an exception leaves the frame, then lies as CX says -/
def cxOf (CX : CXT) (P : Program) (w : World) (K : PySem.W.Frag) (mg : Str → Option Value) (base : Heap) (N : List Str) (qual : Str) (scope : Scope) (f : Addr) (cd : Value) (A : Around) (outer : List Env) (s : Shared) (H : Hp) (E : XK) : Cx where
  prog := P
  w := w
  K := K
  mg := mg
  base := base
  A := A.deeper (envOfC qual scope s.heap.objs.size f cd)
  N := N
  s_0 := s
  H_0 := H
  env := envOfC qual scope s.heap.objs.size f cd
  outer := outer
  stack := envOfC qual scope s.heap.objs.size f cd :: outer
  ex := []
  calm := true
  fn := fun _ => true
  pn := []
  xe := fun e s' => wpAny (model P w) (A.deeper (envOfC qual scope s.heap.objs.size f cd)) (leaving (envOfC qual scope s.heap.objs.size f cd) e) (fun _ s'' => CX outer H s E e s'') (fun e' s'' => CX outer H s E e' s'') s'

theorem cell_has {sc : Scope} {n : Nat} {x : Str} (h : sc.names.lookup x = some .cell) : ∃ c, (cellsFrom n sc.names []).lookup x = some c := by
  have q := PySem.W.cellsFrom_some sc.names n [] (.inl h)
  exact Option.isSome_iff_exists.mp q

theorem inv_start {CX : CXT} {P : Program} {w : World} {K : PySem.W.Frag} {mg : Str → Option Value} {base : Heap} {N ps : List Str} {qual : Str} {scope : Scope} {f : Addr} {cd : Value} {A : Around} {outer : List Env} {s s1 : Shared} {H : Hp} {E : XK} {us : List Value} {vs : List V}
    (S : FnScope N ps scope) (hd : A.handled = none) (e0 : Env0 P w K mg base A outer s H) (hl : vs.length = ps.length) (r : Vals vs us)
    (x : InCallC s s.heap.objs.size (bindL (envOfC qual scope s.heap.objs.size f cd).kindOf (ps.zip us) fun _ => none) (cellsFrom (s.heap.objs.size + 1) scope.names []) (bindC (envOfC qual scope s.heap.objs.size f cd).kindOf (ps.zip us) fun _ => none) s1) :
    Inv (cxOf CX P w K mg base N qual scope f cd A outer s H E) [] (start N vs) H s1 := by
  have hpl : ps.length ≤ N.length := by have := congrArg List.length S.pre; rw [List.length_take] at this; omega
  obtain ⟨h1, tk, rfl, hk⟩ := x.done
  have noA : ∀ b : Addr, b ∉ (cxOf CX P w K mg base N qual scope f cd A outer s H E).ex := fun b z => absurd (show b ∈ ([] : List Addr) from z) (by simp)
  refine ⟨⟨e0.mod, S.kind, rfl, rfl, Nat.le_refl _, fun y z c h1 h2 => ?_, fun y hy => ?_, fun y c _ h => ?_, fun _ => hd, Around.frames_deeper e0.frames, .inr ⟨rfl, rfl⟩, fun b z => absurd z (noA b), e0.bs, e0.bsz, fun b _ _ => noA b, fun b z => absurd z (noA b), e0.funs, e0.frf⟩,
    rfl, e0.bare, Un.kept hk, ⟨_, x.toInCall.ns, fun i y v h1 h2 h3 => ?_⟩, fun y c h => ⟨_, x.cell y c h⟩, e0.hok.fresh (Nat.le_refl _), fun y c h => ?_, fun p hp => absurd (show p ∈ ([] : List (Addr × Obj)) from hp) (by simp), e0.hok.kept hk, ?_⟩
  · exact name_of_addr x.apart (PySem.mem_of_lookup h1) (PySem.mem_of_lookup h2)
  · have hy : scope.names.lookup y = some .cell ∨ scope.names.lookup y = some .free := hy
    rcases hy with hy | hy
    · exact cell_has hy
    · exact absurd rfl (S.nofree _ (PySem.mem_of_lookup hy))
  · exact Nat.le_of_lt (x.above y c (PySem.mem_of_lookup h))
  · have hi : i < vs.length := by
      unfold start at h2
      by_cases hi : i < vs.length
      · exact hi
      · rw [List.getElem?_append_right (by simpa using hi)] at h2
        rw [List.getElem?_replicate] at h2
        split at h2 <;> cases h2
    have ha : vs[i]? = some v := by
      unfold start at h2
      rw [List.getElem?_append_left (by simpa using hi), List.getElem?_map] at h2
      cases e : vs[i]? with
      | none => rw [e] at h2; cases h2
      | some a => rw [e] at h2; cases h2; rfl
    obtain ⟨u, hu, rv⟩ := r.get ha
    have hp : ps[i]? = some y := by
      rw [← S.pre, List.getElem?_take_of_lt (by omega)]; exact h1
    have ndP : ps.Nodup := by rw [← S.pre]; exact S.nd.sublist (List.take_sublist _ _)
    refine ⟨u, rv, ?_⟩
    rcases S.par y (List.mem_of_getElem? hp) with k | k
    · exact .inl ⟨k, bindL_get ndP hp hu k⟩
    · obtain ⟨c, e⟩ := cell_has (n := s.heap.objs.size + 1) k
      refine .inr ⟨.inl k, c, e, ?_⟩
      have q := x.cell y c e
      rw [bindC_get ndP hp hu (by show scope.names.lookup y ≠ _; rw [k]; decide)] at q
      exact q
  · exact e0.hok.fresh (Nat.le_of_lt (x.above y c (PySem.mem_of_lookup h)))
  · unfold start
    show _ = N.length
    rw [List.length_append, List.length_map, List.length_replicate]
    omega

/-- THE RULE: a def (or a method) of the text, by its body. The body's reading t is chosen for each entry; it is run at the parameters' values -/
theorem fn_of {CX : CXT} {P : Program} {w : World} {K : PySem.W.Frag} {mg : Str → Option Value} {base : Heap} {k : Nat} {f : Addr} {name qual : Str} {params : Arguments} {body : List Stmt} {scope : Scope} {dV kV doc pm cdv ct oc : Value} {an od : Option Addr}
    {osl : Array (Option Value)} {N ps : List Str} {sp : Sp} (lk : K.lookup f = some ⟨oc, od, .func (PySem.W.fnOf name qual params body scope dV kV doc pm an cdv ct), osl⟩) (hcd : PySem.W.codeIn K cdv qual = true) (S : FnScope N ps scope)
    (len : ∀ vs H Q E, sp vs H Q E → vs.length = ps.length)
    (hbody : ∀ (A : Around) (outer : List Env) (s : Shared) (H : Hp) (vs : List V) (Q : VK) (E : XK), Room k (A.deeper (envOfC qual scope s.heap.objs.size f cdv)) → sp vs H Q E →
      ∃ t, PSs (cxOf CX P w K mg base N qual scope f cdv A outer s H E) body t ∧ t { nx := fun _ H' => Q .non H', rt := Q } (start N vs) H) :
    FnOk P w K mg base CX (k + 1) f (PySem.W.fnOf name qual params body scope dV kV doc pm an cdv ct) ps sp := by
  refine ⟨len, fun A outer s H args us vs Q E hr e0 hb r hsp => ?_⟩
  have hl := len _ _ _ _ hsp
  have KX : K.In s.heap := e0.mod.kin.keeps fun b o e => (e0.bs b o e).1
  have lim : s.heap.NoLimit := e0.mod.nolimit.keeps fun b o e => (e0.bs b o e).1
  have hkind : ∀ y ∈ ps.zip us, scope.names.lookup y.1 = some .local ∨ (scope.names.lookup y.1 = some .cell ∧ ((cellsFrom (s.heap.objs.size + 1) scope.names []).lookup y.1).isSome = true) := fun ⟨n, v⟩ hy => by
    rcases S.par n (List.of_mem_zip hy).1 with q | q
    · exact .inl q
    · exact .inr ⟨q, PySem.W.cellsFrom_some _ _ _ (.inl q)⟩
  refine codeAny_call_function hr.depth (KX _ _ lk) rfl S.co S.gen rfl (PySem.W.codeRec_of KX hcd) (hb _ _ _ _ ?_)
  refine wpAny_newFunctionEnv_cells S.kind hkind fun env he s1 x => ?_
  subst he
  refine ⟨lim.keeps x.toInCall.keep, codeAny_func ?_⟩
  obtain ⟨t, ht, hq⟩ := hbody A outer s H vs Q E (hr.deeper _) hsp
  have I : Inv (cxOf CX P w K mg base N qual scope f cdv A outer s H E) [] (start N vs) H s1 := inv_start S hr.hd e0 hl r x
  refine wpAny_mono (ht [] s1 (start N vs) H _ I hq) (fun fl s' hs => ?_) fun e s' hs => hs
  have fin : ∀ {σ' : St} {H' : Hp} {v : V} {u : Value}, Inv (cxOf CX P w K mg base N qual scope f cdv A outer s H E) [] σ' H' s' → RelV v u → Q v H' → CE outer P w H s Q u s' :=
    fun {σ' H' v u} J rv q => ⟨v, H', J.os, J.bare, J.base, J.hok, rv, q⟩
  cases fl with
  | ret u =>
    obtain ⟨v, σ', H', J, rv, q⟩ := hs
    exact fin J rv q
  | next =>
    obtain ⟨σ', H', J, q⟩ := hs
    exact fin (v := V.non) (u := Value.none) J rfl q
  | brk =>
    obtain ⟨_, _, _, q⟩ := hs
    exact False.elim q
  | cont =>
    obtain ⟨_, _, _, q⟩ := hs
    exact False.elim q
end L2

namespace L2
open PySem PySem.Spec PyProof.Rows
section
variable {X : Cx} {x : Str} {p pos : Pos} {e : Expr} {es : List Expr} {t : TA} {id T : String} {r : List V → Hp → VK → Prop}

def tCB (r : List V → Hp → VK → Prop) (t : TA) : TE := fun σ H Q => t σ H fun vs H1 => r vs H1 Q
/-- f(e, ..), f a built-in function -/
theorem pe_callB (hc : CallR X (.builtin id) r) (hg : Gl X x) (hm : X.mg x = none) (hv : bootBuiltins x = some (.builtin id)) (ha : PA X (e :: es) t) (hn : x ≠ "__name__" := by decide) (hdb : (x == ("__debug__" : Str)) = false := by decide)
    (he : starEach (e :: es) X.env = (false, eval e X.env) :: starEach es X.env := by rfl) (hpl : (backTo pos (starEach es X.env)).any (·.1) = false := by rfl) : PE X (.Call (.Name x p) (e :: es) [] pos) (tCB r t) := by
  intro pins s σ H Q I h
  refine wpAny_Call_Name_kw (ld_blt I hg hm hv ?_ hn hdb)
  exact PyProof.Rows.callWith_builtin1 (thn (ha pos pins s σ H _ I h) fun us s1 ⟨vs, H1, I1, r1, q1⟩ => hc pins s1 σ H1 vs us Q I1 r1 q1) he hpl
/-- T(e, ..), T a built-in type -/
theorem pe_callTy (hc : CallR X (.type T) r) (hg : Gl X x) (hm : X.mg x = none) (hv : bootBuiltins x = some (.type T)) (ha : PA X (e :: es) t) (hn : x ≠ "__name__" := by decide) (hdb : (x == ("__debug__" : Str)) = false := by decide)
    (he : starEach (e :: es) X.env = (false, eval e X.env) :: starEach es X.env := by rfl) (hpl : (backTo pos (starEach es X.env)).any (·.1) = false := by rfl) : PE X (.Call (.Name x p) (e :: es) [] pos) (tCB r t) := by
  intro pins s σ H Q I h
  refine wpAny_Call_Name_kw (ld_blt I hg hm hv ?_ hn hdb)
  exact PyProof.Rows.callWith_type1 (thn (ha pos pins s σ H _ I h) fun us s1 ⟨vs, H1, I1, r1, q1⟩ => hc pins s1 σ H1 vs us Q I1 r1 q1) he hpl
end
end L2

namespace HT
open PySem PyProof.Rows

/-- t < u of tuples of ints -/
def lexLt : List Int → List Int → Bool
  | [], [] => false
  | [], _ :: _ => true
  | _ :: _, [] => false
  | x :: xs, y :: ys => if x = y then lexLt xs ys else decide (x < y)
theorem lexLt_cons (x y : Int) (xs ys : List Int) : lexLt (x :: xs) (y :: ys) = if x = y then lexLt xs ys else decide (x < y) := rfl
theorem lexLt_nil_nil : lexLt [] [] = false := rfl
theorem lexLt_nil_cons (y : Int) (ys : List Int) : lexLt [] (y :: ys) = true := rfl
theorem lexLt_cons_nil (x : Int) (xs : List Int) : lexLt (x :: xs) [] = false := rfl

theorem eqAt_int (A : Around) (s : Shared) (a : Int) (t : Tok) (c : Int) (u : Tok) : ∃ e, SeqAt.EqAt A s (.int a t) (.int c u) e ∧ (e = true ↔ a = c) :=
  ⟨(a == c), SeqAt.EqAt.int_int a t c u, by simp⟩
theorem rcLt_int (A : Around) (s : Shared) (a : Int) (t : Tok) (c : Int) (u : Tok) (prog : Program) (w : World) (E : Value → Shared → Prop) (Q : Value → Shared → Prop) (h : Q (.bool (decide (a < c))) s) :
    wpAny (model prog w) A (richCompare .Lt (.int a t) (.int c u)) Q E s :=
  (PyProof.Rows.lt_int h : wpAny (model prog w) A (compareOp .Lt (.int a t) (.int c u)) Q E s)

section
open PySem.SeqAt
open PySem.AutoSeq1 (wpAny_loadPart')
open PySem.MeetsSeq PySem.MeetsSeq2 PySem.MeetsSeq3

theorem tuple_lt_ints (l b : Addr) (items items2 : Array Value) (n n2 : Nat) (dd dd2 : Option Addr) (sl sl2 : Array (Option Value)) (ns ms : List Int) (hi : IntsAre items.toList ns) (hj : IntsAre items2.toList ms) :
    Meets (Builtin.«tuple.__lt__» ⟨[.ref l, .ref b], []⟩)
      (fun _ R s => s.heap.get? l = some { cls := .type "tuple", dict := dd, data := .seq items n, slots := sl } ∧ s.heap.get? b = some { cls := .type "tuple", dict := dd2, data := .seq items2 n2, slots := sl2 } ∧
        R (.ok (.ret (.bool (lexLt ns ms)))) s) :=
  .of_wp fun prog w A R s h => by
    obtain ⟨hp, g, d, tk, os⟩ := s; obtain ⟨hl, hb, h⟩ := h
    have f2 := AutoSeq1.sub_tuple_tuple
    have z1 : items.size = ns.length := by rw [← hi.length]; simp
    have z2 : items2.size = ms.length := by rw [← hj.length]; simp
    wp_walk using wpAny_loadPart' hl, wpAny_loadPart' hb, wpAny_forIn_list _ (fun rest b s' => b.1 = none ∧ s' = ⟨hp, g, d, tk, os⟩ ∧ ∃ (vs ws : List Value) (ns' ms' : List Int), rest = vs.zip ws ∧
      IntsAre vs ns' ∧ IntsAre ws ms' ∧ ns'.length + items2.size = ms'.length + items.size ∧ R (.ok (.ret (.bool (lexLt ns' ms')))) ⟨hp, g, d, tk, os⟩) _
    case turn =>
      rintro ⟨y, x⟩ rest b s' ⟨hb', rfl, vs, ws, ns', ms', hz, hvi, hwi, hlen, hR⟩
      cases hvi with
      | nil => rw [List.zip_nil_left] at hz; cases hz
      | cons a t hvi' =>
        cases hwi with
        | nil => rw [List.zip_nil_right] at hz; cases hz
        | cons c u hwi' =>
          rw [List.zip_cons_cons] at hz
          injection hz with hyx hrest
          injection hyx with hy hx
          subst hy hx
          rw [lexLt_cons] at hR
          simp only [List.length_cons] at hlen
          obtain ⟨e, he, hiff⟩ := eqAt_int A.in1 ⟨hp, g, d, tk, os⟩ a t c u
          refine wpAny_bind (he prog w _ _ ?_)
          cases e with
          | true =>
            rw [if_pos (hiff.mp rfl)] at hR
            wp_walk
            exact ⟨rfl, rfl, _, _, _, _, hrest, hvi', hwi', by omega, hR⟩
          | false =>
            rw [if_neg (fun q => absurd (hiff.mpr q) Bool.false_ne_true)] at hR
            have hri := rcLt_int A.in1 ⟨hp, g, d, tk, os⟩ a t c u prog w
            wp_walk using hri
            exact ⟨_, rfl, by simpa using hR⟩
    case fin =>
      rintro ⟨b1, b2⟩ s' ⟨hb', rfl, vs, ws, ns', ms', hz, hvi, hwi, hlen, hR⟩
      simp only at hb'
      subst hb'
      have hv : lexLt ns' ms' = decide (items.size < items2.size) := by
        cases hvi with
        | nil =>
          cases hwi with
          | nil =>
            simp only [List.length_nil] at hlen
            rw [lexLt_nil_nil]
            exact (decide_eq_false (by omega)).symm
          | cons c u hw =>
            simp only [List.length_nil, List.length_cons] at hlen
            rw [lexLt_nil_cons]
            exact (decide_eq_true (by omega)).symm
        | cons a t hv =>
          cases hwi with
          | nil =>
            simp only [List.length_nil, List.length_cons] at hlen
            rw [lexLt_cons_nil]
            exact (decide_eq_false (by omega)).symm
          | cons c u hw =>
            rw [List.zip_cons_cons] at hz
            cases hz
      rw [hv] at hR
      wp_walk
      exact ⟨_, rfl, by simpa [Builtin.Tuple.tupleCompareSizes] using hR⟩
    case h =>
      exact ⟨rfl, rfl, items.toList, items2.toList, ns, ms, rfl, hi, hj, by omega, h⟩
end

section
variable {prog : Program} {w : World} {A : Around} {E : Value → Shared → Prop} {s : Shared}

theorem lt_tupInts {l b : Addr} {items items2 : Array Value} {ns ms : List Int} {Q : Value → Shared → Prop} (hl : IsTup s.heap l items) (hb : IsTup s.heap b items2) (hi : IntsAre items.toList ns) (hj : IntsAre items2.toList ms)
    (hu : A.units < cLine) (h : Q (.bool (lexLt ns ms)) s) : wpAny (model prog w) A (compareOp .Lt (.ref l) (.ref b)) Q E s := by
  obtain ⟨⟨cls, dd, data, sl⟩, ho, hc, n, hd⟩ := id hl
  obtain ⟨⟨cls2, dd2, data2, sl2⟩, ho2, hc2, n2, hd2⟩ := id hb
  simp only at hc hd hc2 hd2
  subst hc hd hc2 hd2
  exact richCompare_meets_room (op := .Lt) ⟨_, ho, rfl⟩ ⟨_, ho2, rfl⟩ PySem.F.slot_tuple_lt PySem.F.entry_tuple_lt (PySem.F.args_tuple_lt_2 _ _) (tuple_lt_ints l b items items2 n n2 dd dd2 sl sl2 ns ms hi hj)
    ⟨ho, ho2, show Value.bool (lexLt ns ms) ≠ Value.notImplemented ∧ Q (.bool (lexLt ns ms)) s from ⟨(fun x => nomatch x), h⟩⟩ hu

/-- t + u, t not empty -/
theorem cat_tup {t b : Addr} {vs ws : List Value} {Q : Value → Shared → Prop} (ht : IsTup s.heap t vs.toArray) (hb : IsTup s.heap b ws.toArray) (hv : vs ≠ [])
    (h1 : ws = [] → Q (.ref t) s) (h2 : ws ≠ [] → Q (.ref s.heap.objs.size) { s with heap := s.heap.push { cls := .type "tuple", data := .seq (vs ++ ws).toArray } })
    (hsz : vs.length + ws.length ≤ sizeLine) : wpAny (model prog w) A (binaryOp .Add (.ref t) (.ref b)) Q E s := by
  obtain ⟨⟨cls, dd, data, sl⟩, ho, hc, n, hd⟩ := id ht
  obtain ⟨⟨cls2, dd2, data2, sl2⟩, ho2, hc2, n2, hd2⟩ := id hb
  simp only at hc hd hc2 hd2
  subst hc hd hc2 hd2
  have e : vs.toArray ++ ws.toArray = (vs ++ ws).toArray := by simp
  by_cases hw : ws = []
  · exact concat_meets ⟨_, ho, rfl⟩ ⟨_, ho2, rfl⟩ noFill_tuple_add seq_tuple_add PySem.F.slot_tuple_add PySem.F.entry_tuple_add (PySem.F.args_tuple_add_2 _ _)
      (tuple_addW1 t b vs.toArray ws.toArray n n2 dd dd2 sl sl2 (by simpa using hv) (by simp [hw])) ⟨ho, ho2, h1 hw⟩
  · refine concat_meets ⟨_, ho, rfl⟩ ⟨_, ho2, rfl⟩ noFill_tuple_add seq_tuple_add PySem.F.slot_tuple_add PySem.F.entry_tuple_add (PySem.F.args_tuple_add_2 _ _)
      (tuple_addW2 t b vs.toArray ws.toArray n n2 dd dd2 sl sl2 (by simpa using hv) (by simpa using hw) (by rw [List.size_toArray, List.size_toArray]; exact hsz)) ⟨ho, ho2, ?_⟩
    rw [e]
    exact h2 hw

/-! ### t[a:b], not the whole -/
/-- a slice's bound as a place among n (d where it is left out) -/
def sIx (n d : Nat) : Option Int → Nat
  | none => d
  | some v => if v < 0 then (v + (n : Int)).toNat else min v.toNat n
theorem sIx_none (n d : Nat) : sIx n d none = d := rfl
theorem sIx_nat (n d k : Nat) : sIx n d (some (k : Int)) = min k n := by
  show (if (k : Int) < 0 then ((k : Int) + (n : Int)).toNat else min (k : Int).toNat n) = min k n
  rw [if_neg (by omega), Int.toNat_natCast]
end
end HT

namespace L2
open PySem PySem.Spec PyProof.Rows

/-! ### the parts of a slice -/
abbrev TO := St → Hp → (Option Int → Hp → Prop) → Prop
/-- a slice's part (left out, or an int) -/
def PO (X : Cx) (e : Option Expr) (t : TO) : Prop :=
  ∀ (pins : List (Addr × Obj)) (s : Shared) (σ : St) (H : Hp) (Q : Option Int → Hp → Prop), Inv X pins σ H s → t σ H Q →
    wpAny (model X.prog X.w) X.A (evalPart e X.env) (fun u s' => ∃ o H', Inv X pins σ H' s' ∧ IsPart u o ∧ Q o H') X.xe s
def tNoPart : TO := fun _ H Q => Q none H
def tPart (t : TE) : TO := fun σ H Q => t σ H fun x H1 => ∃ i, x = .int i ∧ Q (some i) H1

theorem intsAre_of {ns : List Int} : ∀ {us : List Value}, Vals (ns.map V.int) us → IntsAre us ns := by
  induction ns with
  | nil => intro us r; rw [List.map_nil] at r; cases r; exact .nil
  | cons n ns ih =>
    intro us r
    rw [List.map_cons] at r
    cases r with
    | cons r1 r2 =>
      obtain ⟨t, e⟩ := r1
      subst e
      exact .cons n t (ih r2)

section
variable {X : Cx} {e : Expr} {te : TE} {lo hi : Option Expr} {tl th : TO} {pos p2 : Pos}

theorem po_none : PO X none tNoPart := by
  intro pins s σ H Q I h
  rw [evalPart_none]
  exact wpAny_pure ⟨none, H, I, .none, h⟩
theorem po_some (h : PE X e te) : PO X (some e) (tPart te) := by
  intro pins s σ H Q I hw
  rw [evalPart_some]
  refine thn (h pins s σ H _ I hw) fun u s1 ⟨x, H1, I1, r1, q1⟩ => ?_
  obtain ⟨i, rfl, q⟩ := q1
  obtain ⟨t, rfl⟩ := r1
  exact ⟨some i, H1, I1, .int i t, q⟩

/-- what a slice of a value is, by values: the slice object stands at sl -/
def SlR (X : Cx) (r : V → Option Int → Option Int → Hp → VK → Prop) : Prop :=
  ∀ (pins : List (Addr × Obj)) (s : Shared) (σ : St) (H : Hp) (x : V) (v vl vu : Value) (lo hi : Option Int) (sl : Addr) (Q : VK), Inv X pins σ H s → RelV x v → s.heap.IsSliceOf sl vl vu .none → IsPart vl lo → IsPart vu hi → r x lo hi H Q →
    ∃ T id, typeLookup (.type T) "__getitem__" = pure (some (.builtin id)) ∧ s.TypeIs v T ∧ wpAny (model X.prog X.w) X.A (getItem v (.ref sl)) (EP X pins σ Q) X.xe s
def tSl (r : V → Option Int → Option Int → Hp → VK → Prop) (te : TE) (tl th : TO) : TE := fun σ H Q => te σ H fun x H1 => tl σ H1 fun l H2 => th σ H2 fun u H3 => r x l u H3 Q
/-- a[lo:hi], any a -/
theorem pe_slice {r : V → Option Int → Option Int → Hp → VK → Prop} (hr : SlR X r) (he : PE X e te) (hl : PO X lo tl) (hu : PO X hi th) : PE X (.Subscript e (.Slice lo hi none p2) pos) (tSl r te tl th) := by
  intro pins s σ H Q I h
  refine Subscript_ (thn (he pins s σ H _ I h) fun v s1 ⟨x, H1, I1, r1, q1⟩ => ?_)
  refine wpAny_Slice (thn (hl pins s1 σ H1 _ I1 q1) fun vl s2 ⟨l, H2, I2, pl, q2⟩ => thn (hu pins s2 σ H2 _ I2 q2) fun vu s3 ⟨u, H3, I3, pu, q3⟩ => ?_)
  rw [evalPart_none]
  refine wpAny_pure ?_
  have I4 : Inv X pins σ H3 { s3 with heap := s3.heap.push { cls := .type "slice", data := .fields #[vl, vu, .none] } } := I3.kept (t' := s3.toks) fun b ob q => Heap.get?_push_of_some _ q
  obtain ⟨T, id, hT, ht, hg⟩ := hr pins { s3 with heap := s3.heap.push { cls := .type "slice", data := .fields #[vl, vu, .none] } } σ H3 x v vl vu l u s3.heap.objs.size Q I4 r1 (Heap.IsSliceOf.new ..) pl pu q3
  show wpAny (model X.prog X.w) X.A (subscriptTail e (.Slice lo hi none p2) v (.ref s3.heap.objs.size)) (EP X pins σ Q) X.xe { s3 with heap := s3.heap.push { cls := .type "slice", data := .fields #[vl, vu, .none] } }
  exact tail_any (ops := [.ref s3.heap.objs.size, v]) ht hT hg (by with_unfolding_all rfl)

/-- the items of xs[lo:hi] -/
def cutV (xs : List V) (lo hi : Option Int) : List V := (xs.drop (HT.sIx xs.length 0 lo)).take (HT.sIx xs.length xs.length hi - HT.sIx xs.length 0 lo)
theorem cutV_length (xs : List V) (lo hi : Option Int) : (cutV xs lo hi).length ≤ xs.length := by
  unfold cutV
  rw [List.length_take, List.length_drop]
  omega
/-- t[lo:hi], not the whole of it (the whole would be t itself) -/
def rSlT (K : PySem.W.Frag) : V → Option Int → Option Int → Hp → VK → Prop := fun x lo hi H Q => ∃ a xs, x = .ref a ∧ SqT K H a xs ∧
  ¬ (HT.sIx xs.length 0 lo = 0 ∧ HT.sIx xs.length xs.length hi = xs.length) ∧ ∀ p, H p = none → Q (.ref p) (upd H p (.tup (cutV xs lo hi)))
/-! ### t < u, t + u -/
def rLtT (K : PySem.W.Frag) : R2 := fun x y H Q => ∃ a b ns ms, x = .ref a ∧ y = .ref b ∧ SqT K H a (ns.map V.int) ∧ SqT K H b (ms.map V.int) ∧ Q (.bl (HT.lexLt ns ms)) H
/-- t + u, t not empty: u empty gives t itself -/
def rCatT (K : PySem.W.Frag) : R2 := fun x y H Q => ∃ a b xs ys, x = .ref a ∧ y = .ref b ∧ SqT K H a xs ∧ SqT K H b ys ∧ xs ≠ [] ∧ xs.length + ys.length ≤ sizeLine ∧
  (ys = [] → Q (.ref a) H) ∧ (ys ≠ [] → ∀ p, H p = none → Q (.ref p) (upd H p (.tup (xs ++ ys))))
theorem Vals.nil_iff {xs : List V} {us : List Value} (r : Vals xs us) : us = [] ↔ xs = [] := by
  cases r with
  | nil => simp
  | cons _ _ => simp
theorem op_catT : OpR X (binaryOp .Add) (rCatT X.K) := by
  intro pins s σ H x y v u Q I rx ry h
  obtain ⟨a, b, xs, ys, rfl, rfl, ha, hb, hx, hz, q1, q2⟩ := h
  cases rx
  cases ry
  obtain ⟨its, r1, p1, _⟩ := I.tuple ha
  obtain ⟨its2, r2, p2, _⟩ := I.tuple hb
  refine HT.cat_tup p1 p2 (fun z => hx (r1.nil_iff.mp z)) (fun z => ⟨.ref a, H, I, rfl, q1 (r2.nil_iff.mp z)⟩) (fun z => ?_) (by rw [← r1.length, ← r2.length]; exact hz)
  refine ⟨.ref s.heap.objs.size, _, I.laid (t' := s.toks) (o := .tup (xs ++ ys)) (fun b ob q => Heap.get?_push_of_some _ q) (Nat.le_refl _) ?_, rfl, q2 (fun w => z (r2.nil_iff.mpr w)) _ (I.hok.fresh (Nat.le_refl _))⟩
  exact ⟨by rw [List.length_append]; exact hz, _, r1.append r2, IsTup.new _ _⟩
end
end L2

namespace L2
open PySem PySem.Spec PyProof.Rows

/-! ### places -/
/-- the place that an index of any sign means -/
def ixN (n : Nat) (i : Int) : Option Nat := if 0 ≤ i then (if i < n then some i.toNat else none) else if -(n : Int) ≤ i then some (i + n).toNat else none
def atI {α : Type} (xs : List α) (i : Int) : Option α := (ixN xs.length i).bind fun j => xs[j]?
theorem ixN_seq {n : Nat} {i : Int} {j : Nat} (h : ixN n i = some j) : seqIndex? i n = some j ∧ j < n ∧ -(n : Int) ≤ i ∧ i < n := by
  unfold ixN at h
  by_cases h0 : 0 ≤ i
  · rw [if_pos h0] at h
    by_cases h1 : i < n
    · rw [if_pos h1] at h
      have e : i.toNat = j := Option.some.inj h
      exact ⟨by rw [seqIndex_of h0 h1, e], by omega, by omega, h1⟩
    · rw [if_neg h1] at h; cases h
  · rw [if_neg h0] at h
    by_cases h1 : -(n : Int) ≤ i
    · rw [if_pos h1] at h
      have e : (i + n).toNat = j := Option.some.inj h
      exact ⟨by rw [seqIndex_neg (by omega) h1, e], by omega, h1, by omega⟩
    · rw [if_neg h1] at h; cases h
theorem atI_get {α : Type} {xs : List α} {i : Int} {v : α} (h : atI xs i = some v) : ∃ j, seqIndex? i xs.length = some j ∧ xs[j]? = some v ∧ j < xs.length ∧ -(xs.length : Int) ≤ i ∧ i < xs.length := by
  unfold atI at h
  cases e : ixN xs.length i with
  | none => rw [e] at h; cases h
  | some j =>
    rw [e] at h
    obtain ⟨h1, h2, h3, h4⟩ := ixN_seq e
    exact ⟨j, h1, h, h2, h3, h4⟩
theorem atI_nat {α : Type} {xs : List α} {j : Nat} {v : α} (h : xs[j]? = some v) : atI xs (j : Int) = some v := by
  have hj : j < xs.length := (List.getElem?_eq_some_iff.mp h).1
  have e : ixN xs.length (j : Int) = some j := by
    unfold ixN
    rw [if_pos (by omega), if_pos (by omega)]; simp
  unfold atI; rw [e]; exact h
/-! ### what may be subscripted -/
/-- what stands as an index of a plain subscript -/
def PlainIx (b : Expr) : Prop := ∀ o i, subscripted b false o i = operate [o, i] (getItem o i)
/-- a subscript by values -/
def IxR (X : Cx) (r : R2) : Prop :=
  ∀ (value slice : Expr) (pins : List (Addr × Obj)) (s : Shared) (σ : St) (H : Hp) (x y : V) (v u : Value) (Q : VK), Inv X pins σ H s → RelV x v → RelV y u → r x y H Q →
    subscripted slice false v u = operate [v, u] (getItem v u) → wpAny (model X.prog X.w) X.A (subscriptTail value slice v u) (EP X pins σ Q) X.xe s
/-- a call of a builtin's method by values: the receiver, the arguments -/
def MtR (X : Cx) (id : String) (r : V → List V → Hp → VK → Prop) : Prop :=
  ∀ (pins : List (Addr × Obj)) (s : Shared) (σ : St) (H : Hp) (x : V) (xs : List V) (v : Value) (us : List Value) (Q : VK), Inv X pins σ H s → RelV x v → Vals xs us → r x xs H Q →
    wpAny (model X.prog X.w) X.A (call (.builtin id) (v :: us)) (EP X pins σ Q) X.xe s
section
variable {X : Cx} {a b : Expr} {ta tb : TE} {pos : Pos}
/-- a[b] -/
theorem pe_ix {r : R2} (hr : IxR X r) (ha : PE X a ta) (hb : PE X b tb) (hs : PlainIx b) : PE X (.Subscript a b pos) (tOp r ta tb) := by
  intro pins s σ H Q I h
  exact Subscript_ (binT ha hb I h fun v u s2 x y H2 I2 rx ry q => hr a b pins s2 σ H2 x y v u Q I2 rx ry q (hs _ _))

def rIxL (K : PySem.W.Frag) : R2 := fun x y H Q => ∃ p xs i v, x = .ref p ∧ y = .int i ∧ SqL K H p xs ∧ atI xs i = some v ∧ Q v H
def rIxT (K : PySem.W.Frag) : R2 := fun x y H Q => ∃ p xs i v, x = .ref p ∧ y = .int i ∧ SqT K H p xs ∧ atI xs i = some v ∧ Q v H
def rIxS : R2 := fun x y H Q => ∃ z i c, x = .str z ∧ y = .int i ∧ z.length ≤ sizeLine ∧ atI z.cps.toList i = some c ∧ Q (.str ⟨#[c]⟩) H
theorem ix_list : IxR X (rIxL X.K) := by
  intro value slice pins s σ H x y v u Q I rx ry h hs
  obtain ⟨p, xs, i, z, rfl, rfl, hq, he, q⟩ := h
  cases rx
  obtain ⟨t, rfl⟩ := ry
  obtain ⟨its, r, pl, hz⟩ := I.list hq
  obtain ⟨j, h1, h2, h3, h4, h5⟩ := atI_get he
  obtain ⟨w, ew, rw'⟩ := r.get h2
  have hl := r.length
  have hn := line63
  have fin : EP X pins σ Q w s := ⟨z, H, I, rw', q⟩
  by_cases h0 : 0 ≤ i
  · have hj : i.toNat = j := by
      rw [seqIndex_of h0 h5] at h1
      exact Option.some.inj h1
    exact item_listR pl.isList h0 (by omega) (by rw [hj]; simpa using ew) fin hs
  · have hj : (i + (its.toArray.size : Int)).toNat = j := by
      rw [seqIndex_neg (by omega) h4] at h1
      rw [List.size_toArray, ← hl]
      exact Option.some.inj h1
    exact subscriptTail_builtinR (x := w) pl.isList.typeIs slot_list_getitem.lookup
      (wpAny_getItem_list_neg (Q := fun r s' => r = w ∧ EP X pins σ Q r s') pl.isList (by omega) (by rw [List.size_toArray] <;> omega) (by omega) (by rw [hj]; simpa using ew) ⟨rfl, fin⟩) hs
theorem ix_tup : IxR X (rIxT X.K) := by
  intro value slice pins s σ H x y v u Q I rx ry h hs
  obtain ⟨p, xs, i, z, rfl, rfl, hq, he, q⟩ := h
  cases rx
  obtain ⟨t, rfl⟩ := ry
  obtain ⟨its, r, pl, hz⟩ := I.tuple hq
  obtain ⟨j, h1, h2, h3, h4, h5⟩ := atI_get he
  obtain ⟨w, ew, rw'⟩ := r.get h2
  have hl := r.length
  have hn := line63
  have fin : EP X pins σ Q w s := ⟨z, H, I, rw', q⟩
  exact subscriptTail_builtinR (x := w) pl.typeIs slot_tuple_getitem.lookup
    (getItem_tuple (j := j) (Q := fun r s' => r = w ∧ EP X pins σ Q r s') pl (by omega) (by omega) (by rw [List.size_toArray, ← hl]; exact h1) (by simpa using ew) ⟨rfl, fin⟩) hs
/-- list, tuple or str -/
def rIx (K : PySem.W.Frag) : R2 := fun x y H Q => rIxL K x y H Q ∨ rIxT K x y H Q ∨ rIxS x y H Q
/-! ### xs[i] = v, any sign -/
/-- the list's object behind a store -/
theorem mapSeq_set (its : List Value) (n j : Nat) (u : Value) : Obj.mapSeq (·.setIfInBounds j u) { cls := .type "list", data := .seq its.toArray n } = { cls := .type "list", data := .seq (its.set j u).toArray n } := by
  simp [Obj.mapSeq]
theorem Inv.lst {pins : List (Addr × Obj)} {σ : St} {H : Hp} {s : Shared} {p : Addr} {xs : List V} (I : Inv X pins σ H s) (h : H p = some (.lst xs)) :
    ∃ (its : List Value) (n : Nat), Vals xs its ∧ s.heap.get? p = some { cls := .type "list", data := .seq its.toArray n } ∧ xs.length ≤ sizeLine := by
  obtain ⟨z, its, n, r, e⟩ := I.hok p _ h
  exact ⟨its, n, r, e, z⟩
/-- the list at p is written by an update of its object -/
theorem Inv.lstUpd {pins : List (Addr × Obj)} {σ : St} {H : Hp} {s : Shared} {p : Addr} {xs ys : List V} {its its' : List Value} {n n' : Nat} {f : Obj → Obj} (I : Inv X pins σ H s) (h : H p = some (.lst xs))
    (ho : s.heap.get? p = some { cls := .type "list", data := .seq its.toArray n }) (hf : f { cls := .type "list", data := .seq its.toArray n } = { cls := .type "list", data := .seq its'.toArray n' }) (r : Vals ys its') (hz : ys.length ≤ sizeLine) (t : Nat) :
    Inv X pins σ (upd H p (.lst ys)) { s with heap := s.heap.update p f, toks := t } := by
  have e : (s.heap.update p f).get? p = some { cls := .type "list", data := .seq its'.toArray n' } := by
    rw [Heap.get?_update_self f ho (by rw [hf] <;> rfl), hf]
  refine I.write (x := p) (e := p) (by rw [h]; trivial) (.inl rfl) (fun b u hb q => (Heap.get?_update_other _ _ (Ne.symm hb)).trans q) ⟨_, e⟩ ?_
  exact ⟨hz, its', n', r, e⟩
def rSetL : V → V → V → Hp → (Hp → Prop) → Prop := fun o i v H Q => ∃ p xs k j, o = .ref p ∧ i = .int k ∧ H p = some (.lst xs) ∧ ixN xs.length k = some j ∧ Q (upd H p (.lst (xs.set j v)))
theorem set_list : PSet X rSetL := by
  intro pins s σ H o i v ov iv u Q I ro ri rv h
  obtain ⟨p, xs, k, j, rfl, rfl, hp, hj, q⟩ := h
  cases ro
  obtain ⟨t, rfl⟩ := ri
  obtain ⟨its, n, r, ho, hz⟩ := I.lst hp
  obtain ⟨h1, h2, h3, h4⟩ := ixN_seq hj
  have hl := r.length
  have hn := line63
  have I' : Inv X pins σ (upd H p (.lst (xs.set j v))) { s with heap := s.heap.update p (Obj.mapSeq (·.setIfInBounds j u)) } :=
    I.lstUpd hp ho (mapSeq_set its n j u) (r.set rv j) (by rw [List.length_set]; exact hz) s.toks
  by_cases h0 : 0 ≤ k
  · have hk : k.toNat = j := by
      rw [seqIndex_of h0 h4] at h1
      exact Option.some.inj h1
    exact PySem.W.ki_setAt ho h0 (by omega) (by rw [List.size_toArray, ← hl]; exact h4) (by rw [hk]; exact ⟨_, I', q⟩)
  · have hk : (k + (its.toArray.size : Int)).toNat = j := by
      rw [seqIndex_neg (by omega) h3] at h1
      rw [List.size_toArray, ← hl]
      exact Option.some.inj h1
    exact PySem.W.ki_setBack ho (by omega) (by rw [List.size_toArray, ← hl]; exact h3) (by omega) (by rw [hk]; exact ⟨_, I', q⟩)

/-! ### slices -/
theorem slice_bounds (lo hi : Option Int) (n : Nat) : (sliceBounds lo hi none n).1 = ((HT.sIx n 0 lo : Nat) : Int) ∧ (sliceBounds lo hi none n).2.1 = ((HT.sIx n n hi : Nat) : Int) ∧ (sliceBounds lo hi none n).2.2 = 1 := by
  refine ⟨?_, ?_, rfl⟩
  · cases lo with
    | none => simp [sliceBounds, HT.sIx]
    | some i =>
      simp only [sliceBounds, HT.sIx, Option.getD_none, show (1 : Int) > 0 by decide, if_true]
      by_cases h : i < 0
      · simp only [h, if_true] <;> omega
      · simp only [h, if_false] <;> omega
  · cases hi with
    | none => simp [sliceBounds, HT.sIx]
    | some i =>
      simp only [sliceBounds, HT.sIx, Option.getD_none, show (1 : Int) > 0 by decide, if_true]
      by_cases h : i < 0
      · simp only [h, if_true] <;> omega
      · simp only [h, if_false] <;> omega
theorem slicePick_cut (its : List Value) (lo hi : Option Int) : slicePick its.toArray lo hi none = ((its.drop (HT.sIx its.length 0 lo)).take (HT.sIx its.length its.length hi - HT.sIx its.length 0 lo)).toArray := by
  obtain ⟨h1, h2, h3⟩ := slice_bounds lo hi its.toArray.size
  unfold slicePick
  rw [h1, h2, h3]
  simp only [sliceRange_one, pick_run, List.size_toArray] <;> rfl
/-- xs[lo:hi] of a list: a new list -/
def rSlL (K : PySem.W.Frag) : V → Option Int → Option Int → Hp → VK → Prop := fun x lo hi H Q => ∃ a xs, x = .ref a ∧ SqL K H a xs ∧ ∀ p, H p = none → Q (.ref p) (upd H p (.lst (cutV xs lo hi)))
theorem sl_list : SlR X (rSlL X.K) := by
  intro pins s σ H x v vl vu lo hi sl Q I rx hs pl pu h
  obtain ⟨a, xs, rfl, hx, q⟩ := h
  cases rx
  obtain ⟨its, r, ht, hz⟩ := I.list hx
  have hlen := r.length
  refine ⟨"list", _, slot_list_getitem.lookup, ht.isList.typeIs, ?_⟩
  refine wpAny_getItem_list_slice ht.isList hs pl pu .none (by simp) ?_ (by rw [List.size_toArray] <;> omega)
  rw [slicePick_cut, ← hlen]
  refine ⟨.ref s.heap.objs.size, _, I.laid (t' := s.toks) (o := .lst (cutV xs lo hi)) (fun b ob q => Heap.get?_push_of_some _ q) (Nat.le_refl _) ?_, rfl, q _ (I.hok.fresh (Nat.le_refl _))⟩
  exact ⟨Nat.le_trans (cutV_length xs lo hi) hz, _, 0, (r.drop (HT.sIx xs.length 0 lo)).take (HT.sIx xs.length xs.length hi - HT.sIx xs.length 0 lo), Heap.get?_push_size _ rfl⟩

/-! ### in, not in: flat items -/
def flatV : V → Bool
  | .non => true
  | .bl _ => true
  | .int _ => true
  | .str _ => true
  | _ => false
/-- == of flat values -/
def eqV : V → V → Bool
  | .non, .non => true
  | .bl a, .bl b => a == b
  | .bl a, .int b => (if a then 1 else 0) == b
  | .int a, .bl b => a == (if b then 1 else 0)
  | .int a, .int b => a == b
  | .str a, .str b => a == b
  | _, _ => false
theorem eqAt_V {A : Around} {s : Shared} {y x : V} {u v : Value} (ry : RelV y u) (rx : RelV x v) (fy : flatV y = true) (fx : flatV x = true) : SeqAt.EqAt A s u v (eqV y x) := by
  cases y with
  | non =>
    cases ry
    cases x with
    | non => cases rx; exact SeqAt.EqAt.same _
    | bl b => cases rx; exact SeqAt.EqAt.none_bool b
    | int b => obtain ⟨t, rfl⟩ := rx; exact SeqAt.EqAt.none_int b t
    | str b => obtain ⟨t, rfl⟩ := rx; exact SeqAt.EqAt.none_str b t
    | _ => exact absurd (show false = true from fx) Bool.false_ne_true
  | bl a =>
    cases ry
    cases x with
    | non => cases rx; exact SeqAt.EqAt.bool_none a
    | bl b => cases rx; exact SeqAt.EqAt.bool_bool a b
    | int b => obtain ⟨t, rfl⟩ := rx; exact SeqAt.EqAt.bool_int a b t
    | str b => obtain ⟨t, rfl⟩ := rx; exact SeqAt.EqAt.bool_str a b t
    | _ => exact absurd (show false = true from fx) Bool.false_ne_true
  | int a =>
    obtain ⟨t', rfl⟩ := ry
    cases x with
    | non => cases rx; exact SeqAt.EqAt.int_none a t'
    | bl b => cases rx; exact SeqAt.EqAt.int_bool a t' b
    | int b => obtain ⟨t, rfl⟩ := rx; exact SeqAt.EqAt.int_int a t' b t
    | str b => obtain ⟨t, rfl⟩ := rx; exact SeqAt.EqAt.int_str a t' b t
    | _ => exact absurd (show false = true from fx) Bool.false_ne_true
  | str a =>
    obtain ⟨t', rfl⟩ := ry
    cases x with
    | non => cases rx; exact SeqAt.EqAt.str_none a t'
    | bl b => cases rx; exact SeqAt.EqAt.str_bool a t' b
    | int b => obtain ⟨t, rfl⟩ := rx; exact SeqAt.EqAt.str_int a t' b t
    | str b => obtain ⟨t, rfl⟩ := rx; exact SeqAt.EqAt.str_str a t' b t
    | _ => exact absurd (show false = true from fx) Bool.false_ne_true
  | _ => exact absurd (show false = true from fy) Bool.false_ne_true
/-- the items' answers, read off the values (a value's own answer does not lean on its token) -/
def eqU (x : V) (u : Value) : Bool := match u with
  | .none => eqV .non x
  | .bool b => eqV (.bl b) x
  | .int i _ => eqV (.int i) x
  | .str z _ => eqV (.str z) x
  | _ => false
theorem eqU_of {x y : V} {u : Value} (r : RelV y u) (f : flatV y = true) : eqU x u = eqV y x := by
  cases y with
  | non => cases r; rfl
  | bl b => cases r; rfl
  | int i => obtain ⟨t, rfl⟩ := r; rfl
  | str z => obtain ⟨t, rfl⟩ := r; rfl
  | _ => exact absurd (show false = true from f) Bool.false_ne_true
theorem any_eqU {x : V} : ∀ {xs : List V} {us : List Value}, Vals xs us → xs.all flatV = true → us.any (eqU x) = xs.any fun y => eqV y x
  | _, _, .nil, _ => rfl
  | y :: xs, u :: us, .cons r t, f => by
    rw [List.all_cons, Bool.and_eq_true] at f
    rw [List.any_cons, List.any_cons, eqU_of r f.1, any_eqU t f.2]
theorem mem_eqAt {A : Around} {s : Shared} {x : V} {v : Value} (rx : RelV x v) (fx : flatV x = true) : ∀ {xs : List V} {us : List Value}, Vals xs us → xs.all flatV = true → ∀ u ∈ us, SeqAt.EqAt A s u v (eqU x u)
  | _, _, .nil, _ => fun u hu => by cases hu
  | y :: xs, u :: us, .cons r t, f => fun u' hu => by
    rw [List.all_cons, Bool.and_eq_true] at f
    rcases List.mem_cons.mp hu with rfl | hu
    · rw [eqU_of r f.1]; exact eqAt_V r rx f.1 fx
    · exact mem_eqAt rx fx t f.2 u' hu
def inV (x : V) (xs : List V) : Bool := xs.any fun y => eqV y x
/-- x in a list or tuple of flat items -/
def rIn (K : PySem.W.Frag) (neg : Bool) : R2 := fun x y H Q => ∃ p xs, y = .ref p ∧ (SqL K H p xs ∨ SqT K H p xs) ∧ flatV x = true ∧ xs.all flatV = true ∧ Q (.bl (if neg then !inV x xs else inV x xs)) H
theorem op_in_seq : OpR X (compareOp .In) (rIn X.K false) := by
  intro pins s σ H x y v u Q I rx ry h
  obtain ⟨p, xs, rfl, hq, fx, fs, q⟩ := h
  cases ry
  rcases hq with hq | hq
  · obtain ⟨its, r, pl, hz⟩ := I.list hq
    refine SeqAt.in_listAt (eqU x) pl.isList (fun w hw => mem_eqAt rx fx r fs w (by simpa using hw)) ⟨.bl _, H, I, rfl, ?_⟩
    rw [show its.toArray.any (eqU x) = its.any (eqU x) by simp, any_eqU r fs]
    exact q
  · obtain ⟨its, r, pl, hz⟩ := I.tuple hq
    refine SeqAt.in_tupleAt (eqU x) pl (fun w hw => mem_eqAt rx fx r fs w (by simpa using hw)) ⟨.bl _, H, I, rfl, ?_⟩
    rw [show its.toArray.any (eqU x) = its.any (eqU x) by simp, any_eqU r fs]
    exact q
/-! ### len, list(x), tuple(x) of any list or tuple that is read -/
theorem call_len_seq : CallR X (.builtin "len") (fun xs H Q => ∃ p ys, xs = [.ref p] ∧ (SqL X.K H p ys ∨ SqT X.K H p ys) ∧ Q (.int ys.length) H) := by
  intro pins s σ H xs us Q I r h
  obtain ⟨p, ys, rfl, hq, q⟩ := h
  obtain ⟨u, rfl, rx⟩ := vals1 r
  cases rx
  have hn := line63
  rcases hq with hq | hq
  · obtain ⟨its, r', pl, hz⟩ := I.list hq
    have hlen := r'.length
    exact Calls.call_len_list pl.isList (by simp only [List.size_toArray] <;> omega) ⟨.int ys.length, H, I.tok _, ⟨s.toks + 1, by rw [List.size_toArray, hlen]⟩, q⟩
  · obtain ⟨its, r', pl, hz⟩ := I.tuple hq
    have hlen := r'.length
    exact len_tuple pl (by simp only [List.size_toArray] <;> omega) ⟨.int ys.length, H, I.tok _, ⟨s.toks + 1, by rw [List.size_toArray, hlen]⟩, q⟩
theorem call_list_of : CallR X (.type "list") (fun xs H Q => ∃ p ys, xs = [.ref p] ∧ (SqL X.K H p ys ∨ SqT X.K H p ys) ∧ ∀ l, H l = none → Q (.ref l) (upd H l (.lst ys))) := by
  intro pins s σ H xs us Q I r h
  obtain ⟨p, ys, rfl, hq, q⟩ := h
  obtain ⟨u, rfl, rx⟩ := vals1 r
  cases rx
  have fin : ∀ (its : List Value), Vals ys its → ys.length ≤ sizeLine → ∀ (h' : Heap) (c' : Nat), (∀ b o', s.heap.get? b = some o' → h'.get? b = some o') →
      h'.get? s.heap.objs.size = some { cls := .type "list", dict := none, data := .seq its.toArray c', slots := #[] } → EP X pins σ Q (.ref s.heap.objs.size) { s with heap := h' } := fun its r' hz h' c' kp e =>
    ⟨.ref s.heap.objs.size, _, I.laid (t' := s.toks) kp (Nat.le_refl _) (show ObjOk X.prog X.w _ h' _ (.lst ys) from ⟨hz, its, c', r', e⟩), rfl, q _ (I.hok.fresh (Nat.le_refl _))⟩
  rcases hq with hq | hq
  · obtain ⟨its, r', pl, hz⟩ := I.list hq
    have hlen := r'.length
    obtain ⟨o, ho, hc, n, hd⟩ := pl.isList
    exact call_list_seq p (.inl rfl) ho hc hd (fun h' c' kp e => fin its r' hz h' c' kp e) (by simp only [List.size_toArray] <;> omega)
  · obtain ⟨its, r', pl, hz⟩ := I.tuple hq
    have hlen := r'.length
    obtain ⟨o, ho, hc, n, hd⟩ := pl
    exact call_list_seq p (.inr rfl) ho hc hd (fun h' c' kp e => fin its r' hz h' c' kp e) (by simp only [List.size_toArray] <;> omega)
theorem call_tuple_of : CallR X (.type "tuple") (fun xs H Q => ∃ p ys, xs = [.ref p] ∧ ((SqL X.K H p ys ∧ ∀ l, H l = none → Q (.ref l) (upd H l (.tup ys))) ∨ (SqT X.K H p ys ∧ Q (.ref p) H))) := by
  intro pins s σ H xs us Q I r h
  obtain ⟨p, ys, rfl, h⟩ := h
  obtain ⟨u, rfl, rx⟩ := vals1 r
  cases rx
  rcases h with ⟨hq, q⟩ | ⟨hq, q⟩
  · obtain ⟨its, r', pl, hz⟩ := I.list hq
    have hlen := r'.length
    refine call_tuple_list pl.isList (fun h' kp => ?_) (by simp only [List.size_toArray] <;> omega)
    have I1 : Inv X pins σ H { s with heap := h' } := I.kept (t' := s.toks) kp
    have I2 : Inv X pins σ (upd H h'.objs.size (.tup ys)) { s with heap := h'.push { cls := .type "tuple", data := .seq its.toArray } } :=
      I1.laid (t' := s.toks) (fun b o e => Heap.get?_push_of_some _ e) (Nat.le_refl _) (show ObjOk X.prog X.w _ _ _ (.tup ys) from ⟨hz, its, r', IsTup.new _ _⟩)
    exact ⟨.ref h'.objs.size, _, I2, rfl, q _ (I1.hok.fresh (Nat.le_refl _))⟩
  · obtain ⟨its, r', pl, hz⟩ := I.tuple hq
    exact call_tuple_same pl ⟨.ref p, H, I, rfl, q⟩

/-! ### the call of a builtin's method: o.m(..) -/
/-- the value is of that builtin type -/
def tyV (K : PySem.W.Frag) (T : String) (x : V) (H : Hp) : Prop := match x with
  | .str _ => T = "str"
  | .int _ => T = "int"
  | .ref p => (T = "list" ∧ ∃ xs, SqL K H p xs) ∨ (T = "tuple" ∧ ∃ o, K.lookup p = some o ∧ o.cls = .type "tuple" ∧ o.dict = none) ∨
      (T = "dict" ∧ ((∃ kvs, H p = some (.dK kvs)) ∨ ∃ kvs, H p = some (.dT kvs))) ∨ (T = "set" ∧ ∃ S n, H p = some (.set S n))
  | _ => False
theorem tyV_is {pins : List (Addr × Obj)} {σ : St} {H : Hp} {s : Shared} {T : String} {x : V} {v : Value} (I : Inv X pins σ H s) (r : RelV x v) (ty : tyV X.K T x H) :
    s.TypeIs v T ∧ ∀ a, v = .ref a → ∃ ob, s.heap.get? a = some ob ∧ ob.dict = none := by
  cases x with
  | str z =>
    obtain ⟨t, rfl⟩ := r
    cases (show T = "str" from ty)
    exact ⟨typeIs_str s z t, fun _ e => nomatch e⟩
  | int i =>
    obtain ⟨t, rfl⟩ := r
    cases (show T = "int" from ty)
    exact ⟨typeIs_int s i t, fun _ e => nomatch e⟩
  | ref p =>
    cases r
    rcases ty with ⟨rfl, xs, hq⟩ | ⟨rfl, o, hk, hc, hd⟩ | ⟨rfl, hk⟩ | ⟨rfl, S, n, hk⟩
    · obtain ⟨its, _, pl, _⟩ := I.list hq
      refine ⟨pl.isList.typeIs, fun a e => ?_⟩
      cases e
      obtain ⟨o, n, e, c, hd, _⟩ := pl
      exact ⟨o, e, hd⟩
    · refine ⟨⟨o, I.kIn p o hk, hc⟩, fun a e => ?_⟩
      cases e
      exact ⟨o, I.kIn _ o hk, hd⟩
    · have z : ∃ o, s.heap.get? p = some o ∧ o.ExactDict := by
        rcases hk with ⟨kvs, hk⟩ | ⟨kvs, hk⟩
        · obtain ⟨_, _, _, _, o, _, _, e, ex, _⟩ := I.hok p _ hk
          exact ⟨o, e, ex⟩
        · obtain ⟨_, _, _, _, o, _, _, e, ex, _⟩ := I.hok p _ hk
          exact ⟨o, e, ex⟩
      obtain ⟨o, e, ex⟩ := z
      refine ⟨⟨o, e, ex.1⟩, fun a e2 => ?_⟩
      cases e2
      exact ⟨o, e, ex.2.1⟩
    · obtain ⟨o, _, _, _, e, ex, _⟩ := I.hok p _ hk
      refine ⟨⟨o, e, ex.1⟩, fun a e2 => ?_⟩
      cases e2
      exact ⟨o, e, ex.2.1⟩
  | _ => exact False.elim ty
def tBM0 (K : PySem.W.Frag) (T : String) (r : V → List V → Hp → VK → Prop) (to : TE) : TE := fun σ H Q => to σ H fun x H1 => tyV K T x H1 ∧ r x [] H1 Q
def tBM (K : PySem.W.Frag) (T : String) (r : V → List V → Hp → VK → Prop) (to : TE) (t : TA) : TE := fun σ H Q => to σ H fun x H1 => tyV K T x H1 ∧ t σ H1 fun xs H2 => r x xs H2 Q
variable {o e : Expr} {es : List Expr} {to : TE} {t : TA} {name : Str} {apos cpos : Pos} {T id : String} {r : V → List V → Hp → VK → Prop}
theorem pe_bm (pa : PlainAttrs T) (slot : Slot T name id) (hty : typeOf (.builtin id) = pure (.type "method_descriptor")) (hm : MtR X id r) (ho : PE X o to) (ha : PA X (e :: es) t)
    (hbase : attributeBase o name X.env (eval o X.env) = eval o X.env := by rfl)
    (hfew : ((backTo cpos (starEach (e :: es) X.env)).all (fun x => !x.1) && (backToKw cpos (keywordEach [] X.env)).all (fun x => x.1.isSome)
      && decide ((e :: es).length + ([] : List Keyword).length + (if ([] : List Keyword).isEmpty then 0 else 1) < 30)) = true := by rfl)
    (hline : (apos.endLine == cpos.line) = true := by rfl) (hs : starEach (e :: es) X.env = (false, eval e X.env) :: starEach es X.env := by rfl) (hplain : (backTo cpos (starEach es X.env)).any (·.1) = false := by rfl) :
    PE X (.Call (.Attribute o name apos) (e :: es) [] cpos) (tBM X.K T r to t) := by
  intro pins s σ H Q I h
  refine wpAny_Call_method_late hbase hfew hline rfl (thn (ho pins s σ H _ I h) fun v s1 ⟨x, H1, I1, r1, ty, q1⟩ => ?_)
  obtain ⟨h1, h2⟩ := tyV_is I1 r1 ty
  refine ⟨T, id, pa, slot, hty, h1, h2, ?_⟩
  have hA := ha cpos pins s1 σ H1 _ I1 q1
  rw [hs] at hA ⊢
  refine Calls.callWith_builtin (by show (false || (backTo cpos (starEach es X.env)).any (·.1)) = false; rw [hplain] <;> rfl) (Calls.evalArgs_plain ?_)
  exact thn hA fun us s2 ⟨vs, H2, I2, r2, q2⟩ => hm pins s2 σ H2 x vs v us Q I2 r1 r2 q2
/- xs.append(e), list.index on a module's tuple .. are MtR facts of 06m -/
end
end L2

namespace L2
open PySem PySem.Spec PyProof.Rows

def MtM (X : Cx) (id : String) (r : V → List V → Hp → VK → Prop) : Prop :=
  ∀ (pins : List (Addr × Obj)) (s : Shared) (σ : St) (H : Hp) (x : V) (xs : List V) (v : Value) (us : List Value) (Q : VK), Inv X pins σ H s → RelV x v → Vals xs us → r x xs H Q →
    wpAny (model X.prog X.w) X.A (call (.builtin id) (v :: us)) (EP X pins σ Q) X.xe s

/-! ### lists of values -/
theorem Vals.one : ∀ {x : V} {us : List Value}, Vals [x] us → ∃ u, us = [u] ∧ RelV x u
  | _, _, .cons r .nil => ⟨_, rfl, r⟩
theorem Vals.rep {xs : List V} {us : List Value} (h : Vals xs us) : ∀ k : Nat, Vals (List.replicate k xs).flatten (List.replicate k us).flatten
  | 0 => .nil
  | k + 1 => by
    rw [List.replicate_succ, List.replicate_succ, List.flatten_cons, List.flatten_cons]
    exact Vals.append h (Vals.rep h k)
theorem foldl_rep (its : List Value) : ∀ (k : Nat) (acc : List Value),
    List.foldl (fun x1 x2 => x1 ++ x2) acc.toArray (List.replicate k its.toArray) = (acc ++ (List.replicate k its).flatten).toArray
  | 0, acc => by simp
  | k + 1, acc => by
    have e : acc.toArray ++ its.toArray = (acc ++ its).toArray := by simp
    have e2 : (acc ++ its) ++ (List.replicate k its).flatten = acc ++ (List.replicate (k + 1) its).flatten := by
      rw [List.replicate_succ, List.flatten_cons, List.append_assoc]
    rw [← e2, ← foldl_rep its k (acc ++ its), ← e, List.replicate_succ, List.foldl_cons]

section
variable {X : Cx} {pins : List (Addr × Obj)} {σ : St} {H : Hp} {s : Shared} {l b : Addr} {xs ys zs : List V}

/-! ### the two steps: a tracked list is rewritten, a new list is laid -/
theorem Inv.lset {its its' : List Value} {n : Nat} {f : Array Value → Array Value} {t' : Nat} (I : Inv X pins σ H s) (hH : H l = some (.lst xs))
    (e : s.heap.get? l = some { cls := .type "list", data := .seq its.toArray n }) (hf : f its.toArray = its'.toArray) (hv : Vals ys its') (hz : ys.length ≤ sizeLine) :
    Inv X pins σ (upd H l (.lst ys)) { s with heap := s.heap.update l (Obj.mapSeq f), toks := t' } := by
  have q := PySem.IsL.update e f
  rw [hf] at q
  refine I.write (x := l) (e := l) (by rw [hH]; exact trivial) (.inl rfl) (fun b' u hb hu => (Heap.get?_update_other s.heap (Obj.mapSeq f) (Ne.symm hb)).trans hu) ⟨_, q⟩ ?_
  exact ⟨hz, its', _, hv, q⟩
theorem Inv.lnew {its : List Value} {t' : Nat} (I : Inv X pins σ H s) (hv : Vals ys its) (hz : ys.length ≤ sizeLine) :
    Inv X pins σ (upd H s.heap.objs.size (.lst ys)) { s with heap := s.heap.push { cls := .type "list", data := .seq its.toArray }, toks := t' } :=
  I.laid (fun _ _ q => Heap.get?_push_of_some _ q) (Nat.le_refl _) ⟨hz, its, 0, hv, Heap.get?_push_size _ rfl⟩
theorem Inv.fresh (I : Inv X pins σ H s) : H s.heap.objs.size = none := I.hok.fresh (Nat.le_refl _)
theorem Inv.lstM (I : Inv X pins σ H s) (hH : H l = some (.lst xs)) : xs.length ≤ sizeLine ∧ ∃ (its : List Value) (n : Nat), Vals xs its ∧ xs.length = its.length ∧ s.heap.get? l = some { cls := .type "list", data := .seq its.toArray n } := by
  obtain ⟨z, its, n, r, e⟩ := I.hok l _ hH
  exact ⟨z, its, n, r, r.length, e⟩

theorem notLongL {n : Nat} (h : n ≤ sizeLine) : Builtin.List.listTooLong n = false := by
  unfold Builtin.List.listTooLong
  exact decide_eq_false (by omega)
end

section
variable {X : Cx}

/-! ### methods -/
def rAppend : V → List V → Hp → VK → Prop := fun x vs H Q => ∃ l xs y, x = .ref l ∧ vs = [y] ∧ H l = some (.lst xs) ∧ xs.length < sizeLine ∧ Q .non (upd H l (.lst (xs ++ [y])))
theorem mt_append : MtM X "list.append" rAppend := by
  intro pins s σ H x vs v us Q I rx rv h
  obtain ⟨l, xs, y, rfl, rfl, hH, hz, q⟩ := h
  cases rx
  obtain ⟨u, rfl, ru⟩ := rv.one
  obtain ⟨z, its, n, r, hl, e⟩ := I.lstM hH
  refine call_meets F.slot_list_append ⟨_, e, rfl⟩ F.entry_list_append (F.args_list_append_2 _ _) (PySem.list_append l its.toArray n u (by rw [List.size_toArray]; omega)) ⟨e, ?_⟩
  refine ⟨.non, _, I.lset (its' := its ++ [u]) hH e (by simp) (r.append (.cons ru .nil)) ?_, rfl, q⟩
  rw [List.length_append, List.length_singleton]
  omega

def rExtend : V → List V → Hp → VK → Prop := fun x vs H Q => ∃ l b xs zs, x = .ref l ∧ vs = [.ref b] ∧ H l = some (.lst xs) ∧ H b = some (.lst zs) ∧ xs.length + zs.length ≤ sizeLine ∧ Q .non (upd H l (.lst (xs ++ zs)))
theorem mt_extend : MtM X "list.extend" rExtend := by
  intro pins s σ H x vs v us Q I rx rv h
  obtain ⟨l, b, xs, zs, rfl, rfl, hH, hB, hz, q⟩ := h
  cases rx
  obtain ⟨u, rfl, ru⟩ := rv.one
  cases ru
  obtain ⟨z, its, n, r, hl, e⟩ := I.lstM hH
  obtain ⟨z2, its2, n2, r2, hl2, e2⟩ := I.lstM hB
  have hsz : its.toArray.size + its2.toArray.size ≤ sizeLine := by rw [List.size_toArray, List.size_toArray]; omega
  have hlong : ¬ (!its.toArray.isEmpty && Builtin.List.listTooLong (its.toArray.size + its2.toArray.size)) = true := by
    rw [notLongL hsz, Bool.and_false]
    exact Bool.false_ne_true
  refine call_meets F.slot_list_extend ⟨_, e, rfl⟩ F.entry_list_extend (F.args_list_extend_2 _ _)
    (AutoSeq1.list_extend_list_list_0 l its.toArray n b its2.toArray n2 hlong (by rw [List.size_toArray]; omega) (by omega)) ⟨e, e2, ?_⟩
  refine ⟨.non, _, I.lset (its' := its ++ its2) hH e (by simp) (r.append r2) ?_, rfl, q⟩
  rw [List.length_append]
  omega

def rPop : V → List V → Hp → VK → Prop := fun x vs H Q => ∃ l xs y, x = .ref l ∧ vs = [] ∧ H l = some (.lst xs) ∧ xs[xs.length - 1]? = some y ∧ Q y (upd H l (.lst xs.dropLast))
def rPopAt : V → List V → Hp → VK → Prop := fun x vs H Q => ∃ l xs i k y, x = .ref l ∧ vs = [.int i] ∧ H l = some (.lst xs) ∧ -(2 ^ 63) ≤ i ∧ i < 2 ^ 63 ∧ seqIndex? i xs.length = some k ∧ xs[k]? = some y ∧ Q y (upd H l (.lst (xs.eraseIdx k)))
def rReverse : V → List V → Hp → VK → Prop := fun x vs H Q => ∃ l xs, x = .ref l ∧ vs = [] ∧ H l = some (.lst xs) ∧ Q .non (upd H l (.lst xs.reverse))
def rClear : V → List V → Hp → VK → Prop := fun x vs H Q => ∃ l xs, x = .ref l ∧ vs = [] ∧ H l = some (.lst xs) ∧ Q .non (upd H l (.lst []))
/-! ### list + list, list += list, list * int -/
def rCat : R2 := fun x y H Q => ∃ l b xs zs, x = .ref l ∧ y = .ref b ∧ H l = some (.lst xs) ∧ H b = some (.lst zs) ∧ xs.length + zs.length ≤ sizeLine ∧ ∀ p, H p = none → Q (.ref p) (upd H p (.lst (xs ++ zs)))
theorem op_cat : OpR X (binaryOp .Add) rCat := by
  intro pins s σ H x y v u Q I rx ry h
  obtain ⟨l, b, xs, zs, rfl, rfl, hH, hB, hz, q⟩ := h
  cases rx
  cases ry
  obtain ⟨z, its, n, r, hl, e⟩ := I.lstM hH
  obtain ⟨z2, its2, n2, r2, hl2, e2⟩ := I.lstM hB
  refine PySem.P.add_list e e2 ?_ (by rw [List.size_toArray, List.size_toArray]; omega)
  have ea : its.toArray ++ its2.toArray = (its ++ its2).toArray := by simp
  rw [ea]
  exact ⟨.ref _, _, I.lnew (t' := s.toks) (r.append r2) (by rw [List.length_append]; omega), rfl, q _ I.fresh⟩
/-- a list times an int (a negative one is nothing) -/
def rRep : R2 := fun x y H Q => ∃ l k xs, x = .ref l ∧ y = .int k ∧ H l = some (.lst xs) ∧ -(2 ^ 63) ≤ k ∧ k < 2 ^ 63 ∧ xs.length * k.toNat ≤ sizeLine ∧
  ∀ p, H p = none → Q (.ref p) (upd H p (.lst (List.replicate k.toNat xs).flatten))
theorem len_rep {α : Type} (xs : List α) (k : Nat) : (List.replicate k xs).flatten.length = k * xs.length := by
  induction k with
  | zero => simp
  | succ k ih => rw [List.replicate_succ, List.flatten_cons, List.length_append, ih, Nat.succ_mul, Nat.add_comm]
theorem op_rep : OpR X (binaryOp .Mult) rRep := by
  intro pins s σ H x y v u Q I rx ry h
  obtain ⟨l, k, xs, rfl, rfl, hH, h1, h2, hz, q⟩ := h
  cases rx
  obtain ⟨t, rfl⟩ := ry
  obtain ⟨z, its, n, r, hl, e⟩ := I.lstM hH
  have hlen : its.toArray.size * k.toNat ≤ sizeLine := by rw [List.size_toArray, ← hl]; exact hz
  have hcap : ¬ its.toArray.size * k.toNat > (2 ^ 63 - 1) / 8 := by
    have : (sizeLine : Nat) ≤ (2 ^ 63 - 1) / 8 := by decide
    omega
  have hfit : ¬ (!Builtin.List.listFitsIndex k) = true := by
    rw [fitsIndex_both h1 h2]
    exact Bool.false_ne_true
  have hlong : ¬ Builtin.List.listTooLong (its.toArray.size * k.toNat) = true := by
    rw [notLongL hlen]
    exact Bool.false_ne_true
  have hnew : List.foldl (fun x1 x2 => x1 ++ x2) #[] (List.replicate (if its.toArray.isEmpty = true then 0 else k.toNat) its.toArray) = (List.replicate k.toNat its).flatten.toArray := by
    have f0 : ∀ m : Nat, List.foldl (fun x1 x2 => x1 ++ x2) #[] (List.replicate m its.toArray) = (List.replicate m its).flatten.toArray := fun m => by
      have := foldl_rep its m []
      rw [List.nil_append] at this
      exact this
    rw [f0]
    cases its with
    | nil => simp
    | cons a r' => rw [if_neg (by simp)]
  refine wpAny_binaryOp_repeat_ref (T := "list") (U := "int") (by decide) ⟨_, e, rfl⟩ (fun s' => typeIs_int s' k t) noFill_list_mul F.fills_int_mul F.slot_int_rmul repeat_list F.slot_int_index.lookup
    (call_meets F.slot_int_rmul (typeIs_int s k t) F.entry_int_rmul (F.args_int_rmul_2 _ _) (int___rmul___int_list k t l its.toArray n)
      ⟨e, rfl, ⟨_, e, rfl⟩, call_meets F.slot_list_mul ⟨_, e, rfl⟩ F.entry_list_mul (F.args_list_mul_2 _ _) (AutoListH.list___mul___list_int_3 l its.toArray n k t hfit hcap hlong) ⟨e, ?_⟩⟩)
  rw [hnew]
  exact ⟨.ref _, _, I.lnew (t' := s.toks) (r.rep k.toNat) (by rw [len_rep, Nat.mul_comm]; exact hz), rfl, q _ I.fresh⟩

/-! ### del xs[i] -/
end

/-! ### xs[a:b] = ys -/
section
variable {prog : Program} {w : World} {A : Around} {E : Value → Shared → Prop} {s : Shared}
set_option maxRecDepth 100000 in
end

section
variable {X : Cx}
end
end L2

namespace L2
open PySem PySem.Spec PyProof.Rows

theorem Vals.ints : ∀ {ns : List Int} {us : List Value}, Vals (ns.map V.int) us → IntsAre us ns
  | [], us, h => by
    rw [List.map_nil] at h
    cases h
    exact IntsAre.nil
  | n :: ns, us, h => by
    rw [List.map_cons] at h
    cases h with
    | cons r t =>
      obtain ⟨k, rfl⟩ := r
      exact IntsAre.cons n k (Vals.ints t)
theorem Vals.ref1 {a : Addr} {us : List Value} (r : Vals [V.ref a] us) : us = [Value.ref a] := by
  cases r with
  | cons r t =>
    cases t
    cases r
    rfl
/-! ### the library's walks over a list of ints, kept objects alone -/
section
variable {prog : Program} {w : World} {A : Around} {E : Value → Shared → Prop} {s : Shared} {l : Addr} {its : List Value} {ns : List Int} {Q : Value → Shared → Prop}
theorem sum_raw (hh : A.handled = none) (hl : s.heap.IsList l its.toArray) (hi : IntsAre its ns)
    (h : ∀ h' tk t', (∀ b o, s.heap.get? b = some o → h'.get? b = some o) → Q (.int ns.sum t') { s with heap := h', toks := tk }) : wpAny (model prog w) A (call (.builtin "sum") [.ref l]) Q E s := by
  obtain ⟨xs, e⟩ := hi.allInts.items
  have hn : numsOf (intItems xs).toList = ns := by rw [← e]; exact hi.numsOf
  rw [nums_intItems] at hn
  rw [e] at hl
  refine PySem.sum_intListG hh hl fun h' tk t' hk => ?_
  have := h h' tk t' hk
  rw [preSum_eq, List.take_of_length_le (by simp), hn]; exact this
end

/-! ### the calls, by values (CallR of 03t; MtR of 06l) -/
section
variable {X : Cx}
/-- sum(xs) of a list of ints -/
def rSum (K : PySem.W.Frag) : List V → Hp → VK → Prop := fun vs H Q => ∃ (a : Addr) (ns : List Int), vs = [V.ref a] ∧ SqL K H a (ns.map V.int) ∧ Q (.int ns.sum) H
/-- max(xs), min(xs) of a list of ints -/
def rMax (K : PySem.W.Frag) : List V → Hp → VK → Prop := fun vs H Q => ∃ (a : Addr) (ns : List Int), vs = [V.ref a] ∧ SqL K H a (ns.map V.int) ∧ 0 < ns.length ∧ ∀ m, m ∈ ns → (∀ y, y ∈ ns → y ≤ m) → Q (.int m) H
def rMin (K : PySem.W.Frag) : List V → Hp → VK → Prop := fun vs H Q => ∃ (a : Addr) (ns : List Int), vs = [V.ref a] ∧ SqL K H a (ns.map V.int) ∧ 0 < ns.length ∧ ∀ m, m ∈ ns → (∀ y, y ∈ ns → m ≤ y) → Q (.int m) H
theorem cr_sum (hc : X.calm = true) : CallR X (.builtin "sum") (rSum X.K) := by
  intro pins s σ H vs us Q I r h
  obtain ⟨a, ns, rfl, hs, q⟩ := h
  obtain ⟨its, rv, hl, _⟩ := I.list hs
  rw [Vals.ref1 r]
  exact sum_raw (I.ok.hd hc) hl.isList rv.ints fun h' tk t' hk => ⟨.int _, H, I.kept hk, ⟨_, rfl⟩, q⟩
/-! sorted, sort (fewer than 64 items: the library's own bound) -/
def rSorted (K : PySem.W.Frag) : List V → Hp → VK → Prop := fun vs H Q => ∃ (a : Addr) (ns : List Int), vs = [V.ref a] ∧ SqL K H a (ns.map V.int) ∧ ns.length < 64 ∧
  ∀ (ns' : List Int) (p : Addr), ns'.Perm ns → ns'.Pairwise (· ≤ ·) → H p = none → Q (.ref p) (upd H p (.lst (ns'.map V.int)))
def rSortedS (K : PySem.W.Frag) : List V → Hp → VK → Prop := fun vs H Q => ∃ (a : Addr) (xs : List Str), vs = [V.ref a] ∧ SqL K H a (xs.map V.str) ∧ xs.length < 64 ∧
  ∀ (ys : List Str) (p : Addr), ys.Perm xs → sortedS ys = true → H p = none → Q (.ref p) (upd H p (.lst (ys.map V.str)))
/-- xs.sort(), ints -/
def rSort : V → List V → Hp → VK → Prop := fun x xs H Q => ∃ (a : Addr) (ns : List Int), x = V.ref a ∧ xs = [] ∧ H a = some (.lst (ns.map V.int)) ∧ ns.length < 64 ∧
  ∀ ns' : List Int, ns'.Perm ns → ns'.Pairwise (· ≤ ·) → Q .non (upd H a (.lst (ns'.map V.int)))
end

/-! ### list.index, flat items -/
section
variable {X : Cx}
def rIndex (K : PySem.W.Frag) : V → List V → Hp → VK → Prop := fun x xs H Q => ∃ (a : Addr) (ys : List V) (y : V) (j : Nat) (z : V), x = V.ref a ∧ xs = [y] ∧ SqL K H a ys ∧ flatV y = true ∧ ys.all flatV = true ∧ ys[j]? = some z ∧ eqV z y = true ∧
  (∀ (m : Nat) (z' : V), m < j → ys[m]? = some z' → eqV z' y = false) ∧ Q (.int (j : Nat)) H
end

/-! ### type(x) of an own instance; is, is not of a module's class -/
section
variable {X : Cx}
end

/-! ### any(xs), all(xs) of a list of bools -/
section
variable {X : Cx}
def rAny (K : PySem.W.Frag) : List V → Hp → VK → Prop := fun vs H Q => ∃ (a : Addr) (bs : List Bool), vs = [V.ref a] ∧ SqL K H a (bs.map V.bl) ∧ Q (.bl (bs.any id)) H
def rAll (K : PySem.W.Frag) : List V → Hp → VK → Prop := fun vs H Q => ∃ (a : Addr) (bs : List Bool), vs = [V.ref a] ∧ SqL K H a (bs.map V.bl) ∧ Q (.bl (bs.all id)) H
end

/-! ### == and != of data at any depth: none, bools, ints, texts, lists, tuples -/
mutual
inductive Dp (K : PySem.W.Frag) (H : Hp) : V → PyData → Prop
  | non : Dp K H .non .none
  | bl (b : Bool) : Dp K H (.bl b) (.bool b)
  | int (i : Int) : Dp K H (.int i) (.int i)
  | str (x : Str) : Dp K H (.str x) (.str x)
  | lst {a : Addr} {xs : List V} {ds : List PyData} : SqL K H a xs → DpAll K H xs ds → Dp K H (.ref a) (.list ds)
  | tup {a : Addr} {xs : List V} {ds : List PyData} : SqT K H a xs → DpAll K H xs ds → Dp K H (.ref a) (.tuple ds)
inductive DpAll (K : PySem.W.Frag) (H : Hp) : List V → List PyData → Prop
  | nil : DpAll K H [] []
  | cons {v : V} {vs : List V} {d : PyData} {ds : List PyData} : Dp K H v d → DpAll K H vs ds → DpAll K H (v :: vs) (d :: ds)
end
section
variable {X : Cx} {pins : List (Addr × Obj)} {σ : St} {H : Hp} {s : Shared}
mutual
theorem Dp.reads (I : Inv X pins σ H s) : ∀ (d : PyData) (v : V) (u : Value), Dp X.K H v d → RelV v u → ∃ as, Reads s.heap u d as
  | .none, _, _, h, r => by
    cases h
    cases r
    exact ⟨_, Reads.none⟩
  | .bool b, _, _, h, r => by
    cases h
    cases r
    exact ⟨_, Reads.bool b⟩
  | .int i, _, _, h, r => by
    cases h
    obtain ⟨t, rfl⟩ := r
    exact ⟨_, Reads.int i t⟩
  | .str x, _, _, h, r => by
    cases h
    obtain ⟨t, rfl⟩ := r
    exact ⟨_, Reads.str x t⟩
  | .list ds, _, _, h, r => by
    cases h with
    | lst hs ha =>
      cases r
      obtain ⟨its, rv, ⟨o, n, ho, hc, _, hd⟩, _⟩ := I.list hs
      obtain ⟨as, hr⟩ := Dp.readsAll I ds _ its ha rv
      exact ⟨_, Reads.list ho hc hd hr⟩
  | .tuple ds, _, _, h, r => by
    cases h with
    | tup hs ha =>
      cases r
      obtain ⟨its, rv, ⟨o, ho, hc, n, hd⟩, _⟩ := I.tuple hs
      obtain ⟨as, hr⟩ := Dp.readsAll I ds _ its ha rv
      exact ⟨_, Reads.tuple ho hc hd hr⟩
  | .dict _, _, _, h, _ => by cases h
theorem Dp.readsAll (I : Inv X pins σ H s) : ∀ (ds : List PyData) (vs : List V) (us : List Value), DpAll X.K H vs ds → Vals vs us → ∃ as, ReadsAll s.heap us ds as
  | [], _, _, h, r => by
    cases h
    cases r
    exact ⟨_, ReadsAll.nil⟩
  | d :: ds, _, _, h, r => by
    cases h with
    | cons h1 h2 =>
      cases r with
      | cons r1 r2 =>
        obtain ⟨as, q1⟩ := Dp.reads I d _ _ h1 r1
        obtain ⟨bs, q2⟩ := Dp.readsAll I ds _ _ h2 r2
        exact ⟨_, ReadsAll.cons q1 q2⟩
end
end
section
variable {X : Cx}
def rEqD (K : PySem.W.Frag) : R2 := fun x y H Q => ∃ d e, Dp K H x d ∧ Dp K H y e ∧ SeqAt.shaped d = true ∧ SeqAt.shaped e = true ∧ Q (.bl (PyData.eqv d e)) H
def rNeD (K : PySem.W.Frag) : R2 := fun x y H Q => ∃ d e, Dp K H x d ∧ Dp K H y e ∧ SeqAt.shaped d = true ∧ SeqAt.shaped e = true ∧ Q (.bl (!PyData.eqv d e)) H
theorem op_eqD (hu : X.A.units + 64 < cLine) : OpR X (compareOp .Eq) (rEqD X.K) := by
  intro pins s σ H x y v u Q I rx ry h
  obtain ⟨d, e, hd, he, sd, se, q⟩ := h
  obtain ⟨as, r1⟩ := Dp.reads I d x v hd rx
  obtain ⟨bs, r2⟩ := Dp.reads I e y u he ry
  exact SeqAt.compareEq_shaped r1 r2 sd se hu ⟨.bl _, H, I, rfl, q⟩
theorem op_neD (hu : X.A.units + 64 < cLine) : OpR X (compareOp .NotEq) (rNeD X.K) := by
  intro pins s σ H x y v u Q I rx ry h
  obtain ⟨d, e, hd, he, sd, se, q⟩ := h
  obtain ⟨as, r1⟩ := Dp.reads I d x v hd rx
  obtain ⟨bs, r2⟩ := Dp.reads I e y u he ry
  exact SeqAt.compareNe_shaped r1 r2 sd se hu ⟨.bl _, H, I, rfl, q⟩
end
end L2

namespace L2
open PySem PySem.Spec PyProof.Rows
abbrev CellAt (h : Heap) (c : Addr) (v : Option Value) : Prop := h.IsCell c v
def relS (scope sc : Scope) : Scope :=
  { scope with names := scope.names.map fun (n, k) => if (k == .free && sc.kind == .function && sc.names.lookup n == some .cell) then (n, .cell) else (n, k) }

def cloFrom (cells : List (Str × Addr)) : List (Str × NameKind) → List (Str × Addr) → List (Str × Addr)
  | [], acc => acc
  | (n, k) :: r, acc => if k == .free then cloFrom cells r ((n, (cells.lookup n).getD 0) :: acc) else cloFrom cells r acc

theorem closure_loop (env : Env) (f : Str × NameKind → List (Str × Addr) → Sem (ForInStep (List (Str × Addr))))
    (hf : ∀ n k c, f (n, k) c = if k == .free then (do let a ← cellOf env n; pure (.yield ((n, a) :: c))) else pure (.yield c)) :
    ∀ (names : List (Str × NameKind)) (acc : List (Str × Addr)), (∀ y ∈ names, y.2 = .free → ∃ c, env.cells.lookup y.1 = some c) → forIn names acc f = pure (cloFrom env.cells names acc)
  | [], acc, _ => by rw [List.forIn_nil]; rfl
  | (n, k) :: r, acc, h => by
    rw [List.forIn_cons, hf]
    have ih := fun acc => closure_loop env f hf r acc fun y hy => h y (List.mem_cons_of_mem _ hy)
    unfold cloFrom
    by_cases hk : (k == NameKind.free) = true
    · rw [if_pos hk, if_pos hk]
      obtain ⟨c, hc⟩ := h (n, k) List.mem_cons_self (by simpa using hk)
      have e : cellOf env n = pure c := by unfold cellOf; rw [hc]
      rw [e]
      have e2 : (env.cells.lookup n).getD 0 = c := by rw [hc]; rfl
      rw [e2]
      exact ih _
    · rw [if_neg hk, if_neg hk]
      exact ih _
theorem closure_ok {scope : Scope} {env : Env} (h : ∀ y ∈ scope.names, y.2 = .free → ∃ c, env.cells.lookup y.1 = some c) : closureFor scope env = pure (cloFrom env.cells scope.names []) := by
  simp only [closureFor]
  rw [closure_loop env _ (fun n k c => rfl) scope.names [] h]
  rfl

theorem mem_lookup {α : Type} : ∀ {l : List (Str × α)} {n : Str} {c : α}, (n, c) ∈ l → ∃ c', l.lookup n = some c'
  | (k, v) :: r, n, c, h => by
    rw [List.lookup_cons]
    cases hb : n == k with
    | true => exact ⟨_, rfl⟩
    | false =>
      rcases List.mem_cons.mp h with e | h
      · cases e; simp at hb
      · exact mem_lookup h

theorem cloFrom_mem {cells : List (Str × Addr)} : ∀ {names : List (Str × NameKind)} {acc : List (Str × Addr)} {n : Str} {c : Addr}, (n, c) ∈ cloFrom cells names acc → (n, c) ∈ acc ∨ ((n, .free) ∈ names ∧ c = (cells.lookup n).getD 0)
  | [], _, _, _, h => .inl h
  | (m, k) :: r, acc, n, c, h => by
    unfold cloFrom at h
    split at h
    · rename_i hk
      have hk : k = .free := by simpa using hk
      rcases cloFrom_mem h with h | ⟨h1, h2⟩
      · rcases List.mem_cons.mp h with e | h
        · cases e; exact .inr ⟨hk ▸ List.mem_cons_self, rfl⟩
        · exact .inl h
      · exact .inr ⟨List.mem_cons_of_mem _ h1, h2⟩
    · rcases cloFrom_mem h with h | ⟨h1, h2⟩
      · exact .inl h
      · exact .inr ⟨List.mem_cons_of_mem _ h1, h2⟩
theorem cloFrom_acc {cells : List (Str × Addr)} : ∀ {names : List (Str × NameKind)} {acc : List (Str × Addr)} {p : Str × Addr}, p ∈ acc → p ∈ cloFrom cells names acc
  | [], _, _, h => h
  | (m, k) :: r, acc, p, h => by
    unfold cloFrom
    split
    · exact cloFrom_acc (List.mem_cons_of_mem _ h)
    · exact cloFrom_acc h
theorem cloFrom_has {cells : List (Str × Addr)} : ∀ {names : List (Str × NameKind)} {acc : List (Str × Addr)} {n : Str}, (n, .free) ∈ names → (n, (cells.lookup n).getD 0) ∈ cloFrom cells names acc
  | (m, k) :: r, acc, n, h => by
    unfold cloFrom
    rcases List.mem_cons.mp h with e | h
    · cases e
      exact cloFrom_acc List.mem_cons_self
    · split
      · exact cloFrom_has h
      · exact cloFrom_has h

theorem cells_mem : ∀ {names : List (Str × NameKind)} {h : Heap} {acc : List (Str × Addr)} {x : Str} {c : Addr}, (x, c) ∈ cellsFrom h.objs.size names acc →
    (x, c) ∈ acc ∨ ((x, .cell) ∈ names ∧ h.objs.size ≤ c ∧ CellAt (pushCells h names) c none)
  | [], _, _, _, _, h => .inl h
  | (n, k) :: r, h, acc, x, c, hm => by
    unfold cellsFrom at hm
    unfold pushCells
    split at hm
    · rename_i hk
      rw [if_pos hk]
      have hk : k = .cell := by simpa using hk
      rw [← Heap.size_push h { cls := .type "cell", data := .cell none }] at hm
      rcases cells_mem hm with hm | ⟨h1, h2, h3⟩
      · rcases List.mem_cons.mp hm with e | hm
        · cases e
          exact .inr ⟨hk ▸ List.mem_cons_self, Nat.le_refl _, _, pushCells_keeps r _ _ _ (Heap.get?_push_size _ rfl), rfl⟩
        · exact .inl hm
      · rw [Heap.size_push] at h2
        exact .inr ⟨List.mem_cons_of_mem _ h1, Nat.le_of_succ_le h2, h3⟩
    · rename_i hk
      rw [if_neg hk]
      rcases cells_mem hm with hm | ⟨h1, h2, h3⟩
      · exact .inl hm
      · exact .inr ⟨List.mem_cons_of_mem _ h1, h2, h3⟩
theorem cells_acc : ∀ {names : List (Str × NameKind)} {n : Nat} {acc : List (Str × Addr)} {p : Str × Addr}, p ∈ acc → p ∈ cellsFrom n names acc
  | [], _, _, _, h => h
  | (m, k) :: r, n, acc, p, h => by
    unfold cellsFrom
    split
    · exact cells_acc (List.mem_cons_of_mem _ h)
    · exact cells_acc h
theorem cells_has : ∀ {names : List (Str × NameKind)} {n : Nat} {acc : List (Str × Addr)} {x : Str}, (x, .cell) ∈ names → ∃ c, (x, c) ∈ cellsFrom n names acc
  | (m, k) :: r, n, acc, x, h => by
    unfold cellsFrom
    rcases List.mem_cons.mp h with e | h
    · cases e
      exact ⟨n, cells_acc List.mem_cons_self⟩
    · split
      · exact cells_has h
      · exact cells_has h
theorem cells_inj : ∀ {names : List (Str × NameKind)} {h : Heap} {acc : List (Str × Addr)} {x y : Str} {c : Addr}, (∀ p ∈ acc, p.2 < h.objs.size) → (∀ x y c, (x, c) ∈ acc → (y, c) ∈ acc → x = y) →
    (x, c) ∈ cellsFrom h.objs.size names acc → (y, c) ∈ cellsFrom h.objs.size names acc → x = y
  | [], _, _, _, _, _, _, hi, h1, h2 => hi _ _ _ h1 h2
  | (n, k) :: r, h, acc, x, y, c, hl, hi, h1, h2 => by
    unfold cellsFrom at h1 h2
    split at h1
    · rename_i hk
      rw [if_pos hk] at h2
      rw [← Heap.size_push h { cls := .type "cell", data := .cell none }] at h1 h2
      refine cells_inj (h := h.push _) (fun p hp => ?_) (fun x y c a b => ?_) h1 h2
      · rw [Heap.size_push]
        rcases List.mem_cons.mp hp with rfl | hp
        · exact Nat.lt_succ_self _
        · exact Nat.lt_succ_of_lt (hl p hp)
      · rcases List.mem_cons.mp a with e | a <;> rcases List.mem_cons.mp b with e' | b
        · cases e; cases e'; rfl
        · cases e; exact absurd (hl _ b) (Nat.lt_irrefl _)
        · cases e'; exact absurd (hl _ a) (Nat.lt_irrefl _)
        · exact hi _ _ _ a b
    · rename_i hk
      rw [if_neg hk] at h2
      exact cells_inj hl hi h1 h2

theorem newEnv_comp {M : Model} {A : Around} {E : Value → Shared → Prop} {s : Shared} {scope : Scope} {globals : Addr} {closure : List (Str × Addr)} {qual : Str} {func : Option Addr} {code : Value} {around : Env} {builtins : Addr} {Q : Env → Shared → Prop}
    (h : Q (newEnv scope s.heap.objs.size globals (cellsFrom (s.heap.objs.size + 1) scope.names closure) qual func code (some around) builtins)
      { s with heap := pushCells (s.heap.push { cls := .type "dict", data := .dict #[] }) scope.names }) :
    wpAny M A (newFunctionEnv scope globals closure [] qual func code (some around) builtins) Q E s := by
  simp only [newFunctionEnv, Option.isSome_some, if_true]
  refine wpAny_bind (wpAny_alloc ?_)
  refine wpAny_bind (wpAny_layCells _ (fun n k c => rfl) scope.names closure _ _ ?_)
  rw [show ({ s with heap := s.heap.push { cls := .type "dict", data := .dict #[] } } : Shared).heap.objs.size = s.heap.objs.size + 1 from Heap.size_push ..]
  rw [List.forIn_nil]
  exact wpAny_bind (wpAny_pure (wpAny_pure h))

/-- every name of the written scope, in the scope that runs -/
theorem lookup_relS {sc : Scope} : ∀ {names : List (Str × NameKind)} {x : Str} {k : NameKind},
    (names.map fun (n, k) => if (k == NameKind.free && sc.kind == .function && sc.names.lookup n == some .cell) then (n, NameKind.cell) else (n, k)).lookup x = some k →
    ∃ k', names.lookup x = some k' ∧ (k = k' ∨ (k' = .free ∧ k = .cell))
  | [], _, _, h => by simp at h
  | (n, k₀) :: r, x, k, h => by
    have ih := @lookup_relS sc r x k
    have h' : List.lookup x ((if (k₀ == NameKind.free && sc.kind == .function && sc.names.lookup n == some .cell) = true then (n, NameKind.cell) else (n, k₀)) :: (r.map _)) = some k := h
    cases hx : x == n with
    | true =>
      simp only [List.lookup_cons, hx]
      by_cases hc : (k₀ == NameKind.free && sc.kind == .function && sc.names.lookup n == some .cell) = true
      · rw [if_pos hc] at h'
        simp only [List.lookup_cons, hx] at h'
        cases h'
        simp only [Bool.and_eq_true, beq_iff_eq] at hc
        exact ⟨k₀, rfl, .inr ⟨hc.1.1, rfl⟩⟩
      · rw [if_neg hc] at h'
        simp only [List.lookup_cons, hx] at h'
        cases h'
        exact ⟨_, rfl, .inl rfl⟩
    | false =>
      simp only [List.lookup_cons, hx]
      by_cases hc : (k₀ == NameKind.free && sc.kind == .function && sc.names.lookup n == some .cell) = true
      · rw [if_pos hc] at h'
        simp only [List.lookup_cons, hx] at h'
        exact ih h'
      · rw [if_neg hc] at h'
        simp only [List.lookup_cons, hx] at h'
        exact ih h'
/-- the names of a comprehension's block: its own (with their places in N), or captured -/
structure BlkOk (N : List Str) (sc scope : Scope) (own : List (Str × Nat)) : Prop where
  kind : scope.kind = .function
  uniq : ∀ y ∈ scope.names, scope.names.lookup y.1 = some y.2
  ix : ∀ p ∈ own, N[p.2]? = some p.1
  free : ∀ y ∈ scope.names, y.2 = .free → sc.names.lookup y.1 = some .cell ∨ sc.names.lookup y.1 = some .free
  own : ∀ y ∈ scope.names, y.2 = .local ∨ y.2 = .cell → y.1 ∈ own.map (·.1) ∨ y.1 ∉ N
/-- the slots of the block's own names forgotten -/
def wipe (σ : St) : List Nat → St
  | [] => σ
  | v :: vs => (wipe σ vs).set v none
theorem wipe_length (σ : St) : ∀ vs : List Nat, (wipe σ vs).length = σ.length
  | [] => rfl
  | v :: vs => by unfold wipe; rw [List.length_set, wipe_length σ vs]
theorem wipe_some {σ : St} {i : Nat} {x : V} : ∀ {vs : List Nat}, (wipe σ vs)[i]? = some (some x) → σ[i]? = some (some x) ∧ i ∉ vs
  | [], h => ⟨h, by simp⟩
  | v :: vs, h => by
    unfold wipe at h
    by_cases hi : v = i
    · subst hi
      by_cases hv : v < (wipe σ vs).length
      · rw [List.getElem?_set_self hv] at h; cases h
      · rw [List.getElem?_eq_none (by simpa using hv)] at h; cases h
    · rw [List.getElem?_set_ne hi] at h
      obtain ⟨h1, h2⟩ := wipe_some h
      exact ⟨h1, by simp only [List.mem_cons, not_or]; exact ⟨fun e => hi e.symm, h2⟩⟩

/-- the context of a block that starts at s, its iterator's objects at fp -/
abbrev Cx.blk (X : Cx) (s : Shared) (H : Hp) (scope : Scope) (cenv : Env) (fp : List Addr) : Cx := { X with s_0 := s, H_0 := H, env := cenv, outer := X.stack, ex := fp, fn := fun x => scope.names.lookup x == some .cell, pn := [], xe := fun _ _ => False }
section
variable {X : Cx} {pins : List (Addr × Obj)} {σ : St} {H : Hp} {s : Shared}
theorem block_start {scope : Scope} {own : List (Str × Nat)} {fp : List Addr} (I : Inv X pins σ H s) (ok : BlkOk X.N X.env.scope scope own) (hN : X.N.Nodup) (hfp : ∀ b ∈ fp, FpOk X pins H b ∧ b < s.heap.objs.size) :
    Inv (X.blk s H scope (compEnvC scope (cellsFrom (s.heap.objs.size + 1) scope.names (cloFrom X.env.cells scope.names [])) s.heap.objs.size X.env) fp) [] (wipe σ (own.map (·.2))) H { s with heap := pushCells (s.heap.push { cls := .type "dict", data := .dict #[] }) scope.names } := by
  have hfree : ∀ y ∈ scope.names, y.2 = .free → ∃ c, X.env.cells.lookup y.1 = some c := fun y hy e => by
    rcases ok.free y hy e with k | k
    · exact I.ok.has _ (.inl k)
    · exact I.ok.has _ (.inr k)
  generalize hcenv : compEnvC scope (cellsFrom (s.heap.objs.size + 1) scope.names (cloFrom X.env.cells scope.names [])) s.heap.objs.size X.env = cenv
  have kp : ∀ b o, s.heap.get? b = some o → (pushCells (s.heap.push { cls := .type "dict", data := .dict #[] }) scope.names).get? b = some o := fun b o e => pushCells_keeps _ _ _ _ (Heap.get?_push_of_some _ e)
  have hL : cenv.locals = s.heap.objs.size := by rw [← hcenv]; rfl
  have hcl : cenv.cells = cellsFrom (s.heap.objs.size + 1) scope.names (cloFrom X.env.cells scope.names []) := by rw [← hcenv]; rfl
  have hsc : cenv.scope = relS scope X.env.scope := by rw [← hcenv]; rfl
  rw [← Heap.size_push s.heap { cls := .type "dict", data := .dict #[] }] at hcl
  have cm : ∀ {y c}, (y, c) ∈ cloFrom X.env.cells scope.names [] → X.env.cells.lookup y = some c ∧ c < s.heap.objs.size := fun {y c} hm => by
    rcases cloFrom_mem hm with hm | ⟨h1, rfl⟩
    · cases hm
    · obtain ⟨c, hc⟩ := hfree _ h1 rfl
      rw [hc]
      obtain ⟨w, z⟩ := I.cell _ _ hc
      exact ⟨rfl, z.lt⟩
  have mem : ∀ {y c}, cenv.cells.lookup y = some c → (X.env.cells.lookup y = some c ∧ c < s.heap.objs.size) ∨ (s.heap.objs.size + 1 ≤ c ∧ CellAt (pushCells (s.heap.push { cls := .type "dict", data := .dict #[] }) scope.names) c none) := fun {y c} e => by
    rw [hcl] at e
    rcases cells_mem (PySem.mem_of_lookup e) with hm | ⟨_, h2, h3⟩
    · exact .inl (cm hm)
    · rw [Heap.size_push] at h2; exact .inr ⟨h2, h3⟩
  have look : ∀ {y}, scope.names.lookup y = some .free → ∃ c, cenv.cells.lookup y = some c ∧ X.env.cells.lookup y = some c := fun {y} hl => by
    have hy : (y, NameKind.free) ∈ scope.names := PySem.mem_of_lookup hl
    obtain ⟨c', e'⟩ := mem_lookup (cells_acc (names := scope.names) (n := (s.heap.push { cls := .type "dict", data := .dict #[] }).objs.size) (cloFrom_has (cells := X.env.cells) (acc := []) hy))
    rw [← hcl] at e'
    refine ⟨c', e', ?_⟩
    rw [hcl] at e'
    rcases cells_mem (PySem.mem_of_lookup e') with hm | ⟨h1, _, _⟩
    · exact (cm hm).1
    · have := ok.uniq _ h1
      rw [hl] at this; cases this
  have okB : (X.blk s H scope cenv fp).Ok := by
    refine ⟨I.ok.mod, by show cenv.scope.kind = _; rw [hsc]; exact ok.kind, by show cenv.globals = _; rw [← hcenv]; exact I.ok.glob, by show cenv.builtins = _; rw [← hcenv]; exact I.ok.blt, by show s.heap.objs.size ≤ cenv.locals; rw [hL]; exact Nat.le_refl _,
      fun y z c e1 e2 => ?_, fun y hy => ?_, fun y c z e => ?_, I.ok.hd, I.ok.frames, .inl rfl, fun b hb => ⟨?_, fun y c e z => ?_⟩, I.bs, Nat.le_trans I.ok.bsz I.sz, fun b o e hb => ?_, fun b hb z => ?_, I.stack, I.stkFree⟩
    · have e1 : cenv.cells.lookup y = some c := e1
      have e2 : cenv.cells.lookup z = some c := e2
      rw [hcl] at e1 e2
      refine cells_inj (fun p hp => ?_) (fun y z c a b => I.ok.inj y z c (cm a).1 (cm b).1) (PySem.mem_of_lookup e1) (PySem.mem_of_lookup e2)
      rw [Heap.size_push]
      exact Nat.lt_succ_of_lt (cm (y := p.1) (c := p.2) hp).2
    · show ∃ c, cenv.cells.lookup y = some c
      have key : ∀ k, cenv.kindOf y = some k → (k = .cell ∨ k = .free) → ∃ c, cenv.cells.lookup y = some c := fun k hk hk' => by
        unfold Env.kindOf at hk
        rw [hsc] at hk
        obtain ⟨k', e, r⟩ := lookup_relS hk
        have : k' = .cell ∨ k' = .free := by
          rcases r with rfl | ⟨rfl, _⟩
          · exact hk'
          · exact .inr rfl
        rcases this with rfl | rfl
        · obtain ⟨c, hm⟩ := cells_has (n := (s.heap.push { cls := .type "dict", data := .dict #[] }).objs.size) (acc := cloFrom X.env.cells scope.names []) (PySem.mem_of_lookup e)
          obtain ⟨c', e'⟩ := mem_lookup hm
          exact ⟨c', by rw [hcl]; exact e'⟩
        · obtain ⟨c, h1, _⟩ := look e
          exact ⟨c, h1⟩
      rcases hy with hy | hy
      · exact key _ hy (.inl rfl)
      · exact key _ hy (.inr rfl)
    · have z : (scope.names.lookup y == some NameKind.cell) = true := z
      have z : scope.names.lookup y = some .cell := by simpa using z
      have e : cenv.cells.lookup y = some c := e
      rw [hcl] at e
      rcases cells_mem (PySem.mem_of_lookup e) with hm | ⟨_, h2, _⟩
      · rcases cloFrom_mem hm with hm | ⟨h1, _⟩
        · cases hm
        · have q := ok.uniq _ h1
          rw [z] at q; cases q
      · rw [Heap.size_push] at h2
        exact Nat.le_of_succ_le h2
    · show b ≠ cenv.locals
      rw [hL]; exact Nat.ne_of_lt (hfp b hb).2
    · have e : cenv.cells.lookup y = some c := e
      rcases mem e with ⟨h1, _⟩ | ⟨h1, _⟩
      · exact (hfp b hb).1.2.2.2.2.1 y c h1 z
      · have h2 : s.heap.objs.size + 1 ≤ b := by rw [← z]; exact h1
        exact absurd (Nat.lt_of_lt_of_le (hfp b hb).2 (Nat.le_of_succ_le h2)) (Nat.lt_irrefl _)
    · rcases (hfp b hb).1.2.2.2.1 with z | z
      · exact I.ok.noex b o e z
      · exact absurd (Nat.lt_of_lt_of_le (Heap.lt_size e) (Nat.le_trans I.ok.bsz z)) (Nat.lt_irrefl _)
    · rcases List.mem_cons.mp (I.stkSub b z) with z | z
      · exact (hfp b hb).1.2.1 z
      · exact (hfp b hb).1.2.2.1 z
  refine ⟨okB, rfl, I.bare, Un.kept kp, ⟨fun _ => none, ?_, fun i y av e1 e2 e3 => ?_⟩, fun y c e => ?_, ?_, fun y c e => ?_, fun p hp => ?_, I.hok.kept kp, by rw [wipe_length]; exact I.len⟩
  · show Heap.Ns _ cenv.locals _
    rw [hL]
    exact Heap.Ns.keeps (Heap.Ns.new ..) fun b o e => pushCells_keeps _ _ _ _ e
  · obtain ⟨e2, hne⟩ := wipe_some e2
    have hfr : scope.names.lookup y = some .free ∧ (cenv.kindOf y = some .cell ∨ cenv.kindOf y = some .free) := by
      have key : ∀ k, cenv.scope.names.lookup y = some k → k = .local ∨ k = .cell ∨ k = .free → scope.names.lookup y = some .free ∧ (cenv.kindOf y = some .cell ∨ cenv.kindOf y = some .free) := fun k hk hk' => by
        have hk0 := hk
        rw [hsc] at hk
        obtain ⟨k', e, r⟩ := lookup_relS hk
        have no : ¬ (k' = .local ∨ k' = .cell) := fun hh => by
          rcases ok.own _ (PySem.mem_of_lookup e) hh with e' | e'
          · obtain ⟨p, hp, hpy⟩ := List.mem_map.mp e'
            have e3 := ok.ix p hp
            have : p.1 = y := hpy
            rw [this] at e3
            exact hne (List.mem_map.mpr ⟨p, hp, nodup_ix hN e3 e1⟩)
          · exact e' (List.mem_of_getElem? e1)
        rcases r with rfl | ⟨rfl, rfl⟩
        · rcases hk' with rfl | rfl | rfl
          · exact absurd (.inl rfl) no
          · exact absurd (.inr rfl) no
          · exact ⟨e, .inr hk0⟩
        · exact ⟨e, .inl hk0⟩
      have e3 : Vis cenv.scope y := e3
      rcases e3 with e3 | e3 | e3
      · exact key _ e3 (.inl rfl)
      · exact key _ e3 (.inr (.inl rfl))
      · exact key _ e3 (.inr (.inr rfl))
    obtain ⟨m, hn, hl⟩ := I.loc
    have hvis : Vis X.env.scope y := (ok.free _ (PySem.mem_of_lookup hfr.1) rfl).elim (fun k => .inr (.inl k)) (fun k => .inr (.inr k))
    obtain ⟨w, r, q⟩ := hl i y av e1 e2 hvis
    refine ⟨w, r, .inr ⟨hfr.2, ?_⟩⟩
    obtain ⟨c, h1, h2⟩ := look hfr.1
    rcases q with ⟨k, _⟩ | ⟨_, c', e', z⟩
    · have k : X.env.scope.names.lookup y = some .local := k
      rcases ok.free _ (PySem.mem_of_lookup hfr.1) rfl with k' | k' <;> rw [show X.env.scope.names.lookup y = _ from k'] at k <;> cases k
    · rw [h2] at e'; cases e'
      exact ⟨c, h1, z.keeps kp⟩
  · have e : cenv.cells.lookup y = some c := e
    rcases mem e with ⟨h1, _⟩ | ⟨_, z⟩
    · obtain ⟨w, z⟩ := I.cell y c h1
      exact ⟨w, z.keeps kp⟩
    · exact ⟨_, z⟩
  · show H cenv.locals = none
    rw [hL]; exact I.hok.fresh (Nat.le_refl _)
  · have e : cenv.cells.lookup y = some c := e
    rcases mem e with ⟨h1, _⟩ | ⟨h1, _⟩
    · exact I.freeC y c h1
    · exact I.hok.fresh (Nat.le_of_succ_le h1)
  · exact absurd (show p ∈ ([] : List (Addr × Obj)) ++ [] from hp) (by simp)

/-- an item appended to a tracked list -/
theorem app_ok {E : Value → Shared → Prop} {D : Addr} {xs : List V} {y : V} {v : Value} {Q : Value → Shared → Prop} (I : Inv X pins σ H s) (hD : H D = some (.lst xs)) (hz : xs.length < sizeLine) (r : RelV y v)
    (h : ∀ s', Inv X pins σ (upd H D (.lst (xs ++ [y]))) s' → Q .none s') : wpAny (model X.prog X.w) X.A (call (.builtin "list.append") [.ref D, v]) Q E s := by
  obtain ⟨hz', its, n, ri, e⟩ := I.hok D _ hD
  have hl := ri.length
  refine append_at (hsz := by rw [List.size_toArray]; omega) e fun h' sb ho' => ?_
  refine h { s with heap := h' } (I.write (t' := s.toks) (by rw [hD]; trivial) (.inl rfl) (fun b u hb q => (sb.2 b hb).trans q) ⟨_, ho'⟩ ⟨by rw [List.length_append]; exact hz, its ++ [v], n + 1, ri.append (.cons r .nil), ?_⟩)
  rw [ho']
  simp

/-- a clause's tests -/
def PTs (X : Cx) (ifs : List Expr) (t : TT) : Prop :=
  ∀ (pins : List (Addr × Obj)) (s : Shared) (σ : St) (H : Hp) (Q : Bool → Hp → Prop), Inv X pins σ H s → t σ H Q →
    wpAny (model X.prog X.w) X.A (forIn ifs true fun c r => if r = true then do let ok ← isTrue c X.env (eval c X.env); pure (ForInStep.yield ok) else pure (ForInStep.yield r)) (TP X pins σ Q) X.xe s
def tYes : TT := fun _ H Q => Q true H
theorem pts_one {c : Expr} {t : TT} (h : PT X c t) : PTs X [c] t := fun pins s σ H Q I hw => wpAny_tests_one (h pins s σ H Q I hw)
end

theorem thnF {α : Type} {t : Sem α} {Q Q' : α → Shared → Prop} {M : Model} {A : Around} {E : Value → Shared → Prop} {s : Shared} (h : wpAny M A t Q (fun _ _ => False) s) (hQ : ∀ a s, Q a s → Q' a s) : wpAny M A t Q' E s := wpAny_mono h hQ fun _ _ z => False.elim z

/-- the loop of a list comprehension's block, the target of any form (codeAny_compLoop_tests asks a target that no tuple goes to; statement and proof follow it, PyProof/CompMap.lean:41-61, with the step letOwnedTupleGo kept) -/
theorem compLoop_any {prog : Program} {w : World} {A : Around} {R : Result → Shared → Prop} {s : Shared} {elt target iter : Expr} {ifs : List Expr} {scope : Scope} {pos : Pos} {it acc : Value} {env : Env} (I : Nat → Shared → Prop)
    (turn : ∀ n s, I n s → wpAny (model prog w) A (pyNext it) (fun r s₁ => match r with
      | none => R (.ok .next) s₁
      | some v => wpAny (model prog w) A (letOwnedTupleGo target it v) (fun _ s₁' => wpAny (model prog w) A (assign target env v) (fun _ s₂ =>
          wpAny (model prog w) A (forIn ifs true fun c r => if r = true then do let ok ← isTrue c env (eval c env); pure (ForInStep.yield ok) else pure (ForInStep.yield r)) (fun ok s₃ =>
            if ok = true then wpAny (model prog w) A (eval elt env) (fun x s₄ =>
              wpAny (model prog w) A (call (.builtin "list.append") [acc, x]) (fun _ s₅ => ∃ m, m < n ∧ I m s₅) (notedBy (model prog w) A env fun e s' => R (.error e) s') s₄) (notedBy (model prog w) A env fun e s' => R (.error e) s') s₃
            else ∃ m, m < n ∧ I m s₃) (notedBy (model prog w) A env fun e s' => R (.error e) s') s₂) (notedBy (model prog w) A env fun e s' => R (.error e) s') s₁') (notedBy (model prog w) A env fun e s' => R (.error e) s') s₁) (notedBy (model prog w) A env fun e s' => R (.error e) s') s)
    (n : Nat) (h : I n s) :
    codeAny (model prog w) A (.compLoop (.ListComp elt [⟨target, iter, ifs, 0⟩] scope pos) 0 it acc env) R s := by
  refine codeAny_loop rfl I (fun n s hI => ?_) n h
  show wpAny _ A ((compTurn (.ListComp elt [⟨target, iter, ifs, 0⟩] scope pos) 0 it acc env).onRaise (fun x => do noteFrame x env; theTreesLotGoes x)) _ _ s
  refine wpAny_noted ?_
  rw [compTurn_list]
  refine wpAny_bind (wpAny_standAt (wpAny_bind (wpAny_mono (turn n s hI) (fun r s₁ h₁ => ?_) fun _ _ h' => h')))
  cases r with
  | none => exact wpAny_pure h₁
  | some v =>
    refine wpAny_bind (wpAny_mono h₁ (fun _ s₁' h₁' => ?_) fun _ _ h' => h')
    refine wpAny_bind (wpAny_mono h₁' (fun _ s₂ h₂ => wpAny_bind (wpAny_mono h₂ (fun ok s₃ h₃ => ?_) fun _ _ h' => h')) fun _ _ h' => h')
    cases ok with
    | false => exact wpAny_pure ⟨rfl, h₃⟩
    | true =>
      exact wpAny_bind (wpAny_bind (wpAny_mono h₃ (fun x s₄ h₄ => wpAny_bind (wpAny_mono h₄ (fun _ s₅ h₅ => wpAny_pure (wpAny_pure ⟨rfl, h₅⟩)) fun _ _ h' => h')) fun _ _ h' => h'))

section
variable {X : Cx}
/-- [elt for target in iter if ..]: D the new list; W by the turn and a measure, Nx what a turn is to reach -/
def tLc (wi : TI) (g : TG) (tt : TT) (te : TE) (vs : List Nat) : TE := fun σ H Q => wi σ H fun J H1 => ∀ D, H1 D = none → ∃ W : Nat → Nat → Hp → Prop, (∃ m, W 0 m (upd H1 D (.lst []))) ∧ ∀ i m H, W i m H →
  (J.stop i H ∧ Q (.ref D) H) ∨ (J.go i H ∧ ∃ Nx : Hp → Prop, (∀ H', Nx H' → ∃ m', m' < m ∧ W (i + 1) m' H') ∧ ∀ x H', J.yld i H x H' → g x (wipe σ vs) H' fun σ2 H2 => wipe σ2 vs = wipe σ vs ∧ tt σ2 H2 fun b H3 =>
    if b = true then te σ2 H3 fun y H4 => ∃ acc, H4 D = some (.lst acc) ∧ acc.length < sizeLine ∧ Nx (upd H4 D (.lst (acc ++ [y]))) else Nx H3)
theorem lc_core {pins : List (Addr × Obj)} {s : Shared} {σ : St} {H : Hp} {Q : VK} {elt tg iter : Expr} {ifs : List Expr} {scope : Scope} {own : List (Str × Nat)} {pos pos' : Pos} {wi : TI} {g : TG} {tt : TT} {te : TE} {use : Option (Value → Sem Unit)} {Qf : Value → Shared → Prop}
    (hc : X.calm = true) (hN : X.N.Nodup) (I : Inv X pins σ H s) (hi : PI X tg iter wi) (ok : BlkOk X.N X.env.scope scope own)
    (hg : ∀ (s : Shared) (H : Hp) (C : Addr) (cl : List (Str × Addr)) (fp : List Addr), PG (X.blk s H scope (compEnvC scope cl C X.env) fp) tg g) (ht : ∀ (s : Shared) (H : Hp) (C : Addr) (cl : List (Str × Addr)) (fp : List Addr), PTs (X.blk s H scope (compEnvC scope cl C X.env) fp) ifs tt)
    (he : ∀ (s : Shared) (H : Hp) (C : Addr) (cl : List (Str × Addr)) (fp : List Addr), PE (X.blk s H scope (compEnvC scope cl C X.env) fp) elt te) (hs : ∀ x, foldedSetIterable iter X.env x = pure x)
    (h : tLc wi g tt te (own.map (·.2)) σ H Q)
    (hRR : ∀ D C s' m H', Inv X pins σ H' s' → Q (.ref D) H' → s'.heap.Ns C m → FpOk X pins H' C → compPost (model X.prog X.w) X.A X.xe use Qf (.ref D) C (.ok .next) s') :
    wpAny (model X.prog X.w) X.A (comprehension (.ListComp elt [⟨tg, iter, ifs, 0⟩] scope pos) scope X.env pos' (newList []) false (eval iter X.env) use) Qf X.xe s := by
  have hfree : ∀ y ∈ scope.names, y.2 = .free → ∃ c, X.env.cells.lookup y.1 = some c := fun y hy e => by
    rcases ok.free y hy e with k | k
    · exact I.ok.has _ (.inl k)
    · exact I.ok.has _ (.inr k)
  refine wpAny_comprehension_free (use := use) rfl hs (closure_ok hfree) ok.kind (fun y hy e => by rw [ok.uniq y hy, e])
    (thn (hi pins s σ H _ I h) fun xv s1 hx => thn hx fun itv s2 h2 => ?_)
  obtain ⟨it, fp, tn, J, H2, e, I2, T, st2, f2, q⟩ := h2
  subst e
  refine wpAny_newObj_type (newEnv_comp ?_) (by show 0 ≤ sizeLine; decide)
  generalize hD : s2.heap.objs.size = D
  have hDn : H2 D = none := I2.hok.fresh (Nat.le_of_eq hD)
  obtain ⟨W, ⟨m0, w0⟩, turn⟩ := q D hDn
  -- the new list
  generalize hs3 : ({ s2 with heap := s2.heap.push { cls := .type "list", data := .seq ([] : List Value).toArray } } : Shared) = s3
  have I3 : Inv X pins σ (upd H2 D (.lst [])) s3 := by
    rw [← hs3]
    refine I2.laid (t' := s2.toks) (fun b o e => Heap.get?_push_of_some _ e) (Nat.le_of_eq hD) ⟨Nat.zero_le _, [], 0, .nil, ?_⟩
    rw [← hD]
    exact Heap.get?_push_size _ rfl
  have h3 : s3.heap = s2.heap.push { cls := .type "list", data := .seq ([] : List Value).toArray } := by rw [← hs3]
  have sz : ∀ b ∈ fp, b < s2.heap.objs.size := fun b hb => by
    obtain ⟨o, e, _⟩ := T.obj _ _ st2 b hb
    exact Heap.lt_size e
  have f3 : ∀ b ∈ fp, FpOk X pins (upd H2 D (.lst [])) b ∧ b < s3.heap.objs.size := fun b hb => by
    have hlt := sz b hb
    refine ⟨⟨?_, (f2 b hb).2⟩, by rw [h3, Heap.size_push]; exact Nat.lt_succ_of_lt hlt⟩
    rw [upd_ne (by rw [← hD]; exact Nat.ne_of_lt hlt)]
    exact (f2 b hb).1
  have st3 : tn 0 s3.heap := T.keep _ _ _ st2 fun b _ o e => by rw [h3]; exact Heap.get?_push_of_some _ e
  have I4 := block_start I3 ok hN f3
  have pg := hg s3 (upd H2 D (.lst [])) s3.heap.objs.size (cellsFrom (s3.heap.objs.size + 1) scope.names (cloFrom X.env.cells scope.names [])) fp
  have pt := ht s3 (upd H2 D (.lst [])) s3.heap.objs.size (cellsFrom (s3.heap.objs.size + 1) scope.names (cloFrom X.env.cells scope.names [])) fp
  have pe := he s3 (upd H2 D (.lst [])) s3.heap.objs.size (cellsFrom (s3.heap.objs.size + 1) scope.names (cloFrom X.env.cells scope.names [])) fp
  show codeAny _ _ (.compStart (.ListComp elt [⟨tg, iter, ifs, 0⟩] scope pos) 0 (.ref it) (.ref D) (compEnvC scope (cellsFrom (s3.heap.objs.size + 1) scope.names (cloFrom X.env.cells scope.names [])) s3.heap.objs.size X.env)) (compPost (model X.prog X.w) X.A X.xe use Qf (.ref D) s3.heap.objs.size) { s3 with heap := pushCells (s3.heap.push { cls := .type "dict", data := .dict #[] }) scope.names }
  have nfp : ∀ b ∈ fp, (upd H2 D (.lst [])) b = none := fun b hb => (f3 b hb).1.1
  generalize hce : compEnvC scope (cellsFrom (s3.heap.objs.size + 1) scope.names (cloFrom X.env.cells scope.names [])) s3.heap.objs.size X.env = ce at I4 pg pt pe ⊢
  have cL : ce.locals = s3.heap.objs.size := by subst hce; rfl
  generalize hH3 : upd H2 D (.lst []) = H3 at I3 I4 pg pt pe w0 nfp f3
  generalize hs4 : ({ s3 with heap := pushCells (s3.heap.push { cls := .type "dict", data := .dict #[] }) scope.names } : Shared) = s4 at I4 ⊢
  have st4 : tn 0 s4.heap := T.keep _ _ _ st3 fun b _ o e => by rw [← hs4]; exact pushCells_keeps _ _ _ _ (Heap.get?_push_of_some _ e)
  have stat : ∀ {σ' : St} {H' : Hp} {s' : Shared}, Inv (X.blk s3 H3 scope ce fp) [] σ' H' s' → (∀ b ∈ fp, H' b = none) → ∀ b ∈ fp, FpOk (X.blk s3 H3 scope ce fp) [] H' b := fun {σ' H' s'} I' hn b hb =>
    ⟨hn b hb, (I'.ok.exf b hb).1, I'.ok.exfs b hb, .inl hb, fun x c e => (I'.ok.exf b hb).2 x c e, fun p hp => absurd (show p ∈ ([] : List (Addr × Obj)) ++ [] from hp) (by simp)⟩
  have loop : codeAny (model X.prog X.w) X.A (.compLoop (.ListComp elt [⟨tg, iter, ifs, 0⟩] scope pos) 0 (.ref it) (.ref D) ce) (compPost (model X.prog X.w) X.A X.xe use Qf (.ref D) s3.heap.objs.size) s4 := by
    refine compLoop_any (fun n s' => ∃ i H', Inv (X.blk s3 H3 scope ce fp) [] (wipe σ (own.map (·.2))) H' s' ∧ tn i s'.heap ∧ (∀ b ∈ fp, H' b = none) ∧ W i n H') ?_ m0 ⟨0, H3, I4, st4, nfp, w0⟩
    rintro n s5 ⟨i, H5, I5, st5, n5, w5⟩
    rcases turn i n H5 w5 with ⟨stop, qq⟩ | ⟨go, Nx, hNx, step⟩
    · have td := T.done (X.blk s3 H3 scope ce fp) rfl rfl rfl hc i [] s5 _ H5 (fun _ _ => False) I5 (stat I5 n5) st5 stop
      refine thnF td fun r s6 ⟨hr, I6⟩ => ?_
      subst hr
      -- back in the def's context
      have I7 : Inv X pins σ H5 s6 := I3.call' (ch := fp) I6.os I6.base I6.hok I6.bare fun b hb => ⟨(f3 b hb).1.2.2.2.1, (f3 b hb).1.2.1, (f3 b hb).1.2.2.2.2.1, (f3 b hb).1.2.2.2.2.2⟩
      have nC : H5 s3.heap.objs.size = none := by
        have z : H5 ce.locals = none := I6.free
        rw [cL] at z
        exact z
      obtain ⟨m, hn, _⟩ := I6.loc
      have hn : s6.heap.Ns ce.locals m := hn
      rw [cL] at hn
      exact hRR D s3.heap.objs.size s6 m H5 I7 qq hn (I3.fpOk (Nat.le_refl _) nC)
    · have ti := T.item (X.blk s3 H3 scope ce fp) rfl rfl rfl hc i [] s5 _ H5 (fun _ _ => False) I5 (stat I5 n5) st5 go
      refine thnF ti fun r s6 ⟨u, hr, h6⟩ => ?_
      subst hr
      refine thnF h6 fun _ s7 ⟨x, H7, I7, r7, y7, st7, n7⟩ => ?_
      have I7' := I7.pinned (stat I7 n7) (T.obj _ _ st7)
      refine thnF (pg _ s7 _ H7 x u _ I7' r7 (step x H7 y7)) fun _ s8 ⟨σ8, H8, I8, hw8, q8⟩ => ?_
      refine thnF (pt _ s8 σ8 H8 _ I8 q8) fun b s9 ⟨H9, I9, q9⟩ => ?_
      -- the turn's end
      have fin : ∀ {s' : Shared} {H' : Hp}, Inv (X.blk s3 H3 scope ce fp) ([] ++ pinsAt fp s7.heap) σ8 H' s' → Nx H' → ∃ m, m < n ∧ ∃ i H', Inv (X.blk s3 H3 scope ce fp) [] (wipe σ (own.map (·.2))) H' s' ∧ tn i s'.heap ∧ (∀ b ∈ fp, H' b = none) ∧ W i m H' := fun {s' H'} I' nx => by
        obtain ⟨m', hm, w'⟩ := hNx H' nx
        have pin' : ∀ b ∈ fp, ∀ o, s7.heap.get? b = some o → s'.heap.get? b = some o ∧ H' b = none := fun b hb o e =>
          let z := I'.pin (b, o) (List.mem_append_right _ (List.mem_append_right _ (mem_pinsAt hb e)))
          ⟨z.1, z.2.1⟩
        have hl : (wipe σ (own.map (·.2))).length = σ8.length := by rw [← hw8, wipe_length]
        refine ⟨m', hm, i + 1, H', (I'.unpinned (pins := [])).weak hl (fun j v e => ?_), T.keep _ _ _ st7 fun b hb o e => (pin' b hb o e).1, fun b hb => ?_, w'⟩
        · rw [← hw8] at e
          exact (wipe_some e).1
        · obtain ⟨o, e, _⟩ := T.obj _ _ st7 b hb
          exact (pin' b hb o e).2
      cases b with
      | false =>
        simp only [Bool.false_eq_true, if_false] at q9 ⊢
        exact fin I9 q9
      | true =>
        simp only [if_true] at q9 ⊢
        refine thnF (pe _ s9 σ8 H9 _ I9 q9) fun z s10 ⟨yv, H10, I10, r10, acc, hD10, hz10, nx⟩ => ?_
        exact app_ok (X := X.blk s3 H3 scope ce fp) I10 hD10 hz10 r10 fun s11 I11 => fin I11 nx
  exact codeAny_compStart_list loop (T.self X.A 0 _ _ _ st4 loop)
/-- name = [..] on one line, the name a local -/
theorem ps_setLc {i : Nat} {y : Str} {py : Pos} {elt tg iter : Expr} {ifs : List Expr} {scope : Scope} {own : List (Str × Nat)} {pos spos : Pos} {wi : TI} {g : TG} {tt : TT} {te : TE} (hc : X.calm = true) (hN : X.N.Nodup) (hy : X.N[i]? = some y) (hyl : X.env.scope.names.lookup y = some .local)
    (hsw : swapsWith (.ListComp elt [⟨tg, iter, ifs, 0⟩] scope pos) (some (.Name y py)) spos.line X.env = pure true) (hi : PI X tg iter wi) (ok : BlkOk X.N X.env.scope scope own)
    (hg : ∀ (s : Shared) (H : Hp) (C : Addr) (cl : List (Str × Addr)) (fp : List Addr), PG (X.blk s H scope (compEnvC scope cl C X.env) fp) tg g) (ht : ∀ (s : Shared) (H : Hp) (C : Addr) (cl : List (Str × Addr)) (fp : List Addr), PTs (X.blk s H scope (compEnvC scope cl C X.env) fp) ifs tt)
    (he : ∀ (s : Shared) (H : Hp) (C : Addr) (cl : List (Str × Addr)) (fp : List Addr), PE (X.blk s H scope (compEnvC scope cl C X.env) fp) elt te) (hs : ∀ x, foldedSetIterable iter X.env x = pure x := by intro _; rfl) :
    PS X (.Assign [.Name y py] (.ListComp elt [⟨tg, iter, ifs, 0⟩] scope pos) spos) (tAsg (tLc wi g tt te (own.map (·.2))) (gName i)) := by
  intro pins s σ H D I h
  rw [exec_Assign_Name_used _ _ _ _ hsw]
  refine wpAny_bind (wpAny_standAt (wpAny_bind ?_))
  show wpAny _ X.A (do let _ ← comprehension (.ListComp elt [⟨tg, iter, ifs, 0⟩] scope pos) scope X.env (firstIterPos [⟨tg, iter, ifs, 0⟩] pos) (newList []) false (eval iter X.env) (some (assign (.Name y py) X.env))) _ _ s
  have h : tLc wi g tt te (own.map (·.2)) σ H (fun x H1 => gName i x σ H1 D.nx) := h
  refine wpAny_bind (thn (lc_core (Qf := fun _ s' => SP X pins D .next s') hc hN I hi ok hg ht he hs h fun L C s' m H' I' q hn f => ?_) fun _ s' hq => wpAny_pure (wpAny_pure hq))
  show wpAny _ _ (assign (.Name y py) X.env (.ref L)) _ _ _
  refine wpAny_assign_Name (store_ok2 (v := V.ref L) I' hN hy (.inl hyl) rfl (fun s2 I2 ⟨a, sb, ha⟩ => ?_) (.inr hyl))
  obtain ⟨f0, f1, f2, f3, f4, f5⟩ := f
  have haC : C ≠ a := by
    rcases ha with z | z
    · rw [z]; exact f1
    · exact fun e => f4 y a z e.symm
  refine ⟨m, hn.sameBut sb haC, fun h3 sb3 => ?_⟩
  exact ⟨_, H', I2.turned (t' := s2.toks) (fun b o hb e => (sb3.2 b hb).trans e) f0 f1 f3 f4 f5, q⟩
theorem sw_true {elt : Expr} {gs : List Comprehension} {scope : Scope} {pos py : Pos} {y : Str} {l : Nat} {env : Env} (hk : env.scope.kind = .function) (hy : env.scope.names.lookup y = some .local) (hl : (py.line == pos.line) = true)
    (ha : (scope.names.any fun (n, k) => n == y && (k == .local || k == .cell)) = false) : swapsWith (.ListComp elt gs scope pos) (some (.Name y py)) l env = pure true := by
  have ky : env.kindOf y = some .local := hy
  have hb : env.blockKind = .function := by unfold Env.blockKind; rw [hk]; rfl
  unfold swapsWith
  simp only [hb, ky, ha, Expr.pos, hl]
  rfl
end

/-! ### the forms one uses -/
/-- over a list that the block leaves as it is -/
theorem lc_list {K : PySem.W.Frag} {a : Addr} {xs : List V} {g : TG} {tt : TT} {te : TE} {vs : List Nat} {σ : St} {H1 : Hp} {D : Addr} {Qd : Hp → Prop} (Pv : Nat → Hp → Prop) (h0 : Pv 0 (upd H1 D (.lst []))) (hl : ∀ i H, i ≤ xs.length → Pv i H → SqL K H a xs)
    (hs : ∀ i x H, xs[i]? = some x → Pv i H → g x (wipe σ vs) H fun σ2 H2 => wipe σ2 vs = wipe σ vs ∧ tt σ2 H2 fun b H3 =>
      if b = true then te σ2 H3 fun y H4 => ∃ acc, H4 D = some (.lst acc) ∧ acc.length < sizeLine ∧ Pv (i + 1) (upd H4 D (.lst (acc ++ [y]))) else Pv (i + 1) H3) (hd : ∀ H, Pv xs.length H → Qd H) :
    ∃ W : Nat → Nat → Hp → Prop, (∃ m, W 0 m (upd H1 D (.lst []))) ∧ ∀ i m H, W i m H →
      ((Itl K a).stop i H ∧ Qd H) ∨ ((Itl K a).go i H ∧ ∃ Nx : Hp → Prop, (∀ H', Nx H' → ∃ m', m' < m ∧ W (i + 1) m' H') ∧ ∀ x H', (Itl K a).yld i H x H' → g x (wipe σ vs) H' fun σ2 H2 => wipe σ2 vs = wipe σ vs ∧ tt σ2 H2 fun b H3 =>
        if b = true then te σ2 H3 fun y H4 => ∃ acc, H4 D = some (.lst acc) ∧ acc.length < sizeLine ∧ Nx (upd H4 D (.lst (acc ++ [y]))) else Nx H3) := by
  refine ⟨fun i m H => m = xs.length - i ∧ i ≤ xs.length ∧ Pv i H, ⟨xs.length, by simp, Nat.zero_le _, h0⟩, ?_⟩
  rintro i m H ⟨rfl, hi, p⟩
  have q := hl i H hi p
  by_cases hlt : i < xs.length
  · refine .inr ⟨⟨xs, xs[i], q, by simp [hlt]⟩, Pv (i + 1), fun H' p' => ⟨xs.length - (i + 1), by omega, rfl, hlt, p'⟩, fun x H' y => ?_⟩
    obtain ⟨e, y⟩ := y
    subst e
    exact hs i x _ (y xs q) p
  · have e : i = xs.length := by omega
    subst e
    exact .inl ⟨⟨xs, q, Nat.le_refl _⟩, hd H p⟩
def blkC (N : List Str) (sc scope : Scope) (own : List (Str × Nat)) : Bool :=
  (match scope.kind with | .function => true | _ => false) && (scope.names.all fun y => decide (scope.names.lookup y.1 = some y.2)) && (own.all fun p => decide (N[p.2]? = some p.1)) &&
    (scope.names.all fun y => match y.2 with
      | .free => (match sc.names.lookup y.1 with | some .cell => true | some .free => true | _ => false)
      | .local => decide (y.1 ∈ own.map (·.1)) || decide (y.1 ∉ N)
      | .cell => decide (y.1 ∈ own.map (·.1)) || decide (y.1 ∉ N)
      | _ => true)
end L2

namespace L2
open PySem PySem.Spec PyProof.Rows

section
variable {prog : Program} {w : World} {A : Around} {R : Result → Shared → Prop} {s : Shared} {elt t0 i0 t1 i1 : Expr} {ifs0 ifs1 : List Expr} {scope : Scope} {pos : Pos} {it acc : Value} {env : Env}
end

section
variable {X : Cx}
/-- [elt for tg in iter if .. for tg1 in iter1 if ..]: behind the first clause's store and tests the second source's own loop, from which Nx is reached. vs: the block's names; vs1: those of the second target -/
def tLc2 (wi : TI) (g : TG) (tt : TT) (wi1 : TI) (g1 : TG) (tt1 : TT) (te : TE) (vs vs1 : List Nat) : TE := fun σ H Q => wi σ H fun J H1 => ∀ D, H1 D = none → ∃ W : Nat → Nat → Hp → Prop, (∃ m, W 0 m (upd H1 D (.lst []))) ∧ ∀ i m H, W i m H →
  (J.stop i H ∧ Q (.ref D) H) ∨ (J.go i H ∧ ∃ Nx : Hp → Prop, (∀ H', Nx H' → ∃ m', m' < m ∧ W (i + 1) m' H') ∧ ∀ x H', J.yld i H x H' → g x (wipe σ vs) H' fun σ2 H2 => wipe σ2 vs = wipe σ vs ∧ tt σ2 H2 fun b H3 =>
    if b = true then wi1 σ2 H3 fun J1 H4 => ∃ W1 : Nat → Nat → Hp → Prop, (∃ m, W1 0 m H4) ∧ ∀ j k H, W1 j k H →
      (J1.stop j H ∧ Nx H) ∨ (J1.go j H ∧ ∃ Nx1 : Hp → Prop, (∀ H', Nx1 H' → ∃ k', k' < k ∧ W1 (j + 1) k' H') ∧ ∀ x H', J1.yld j H x H' → g1 x (wipe σ2 vs1) H' fun σ3 H5 => wipe σ3 vs1 = wipe σ2 vs1 ∧ tt1 σ3 H5 fun b H6 =>
        if b = true then te σ3 H6 fun y H7 => ∃ acc, H7 D = some (.lst acc) ∧ acc.length < sizeLine ∧ Nx1 (upd H7 D (.lst (acc ++ [y]))) else Nx1 H6)
    else Nx H3)
end
end L2

namespace L2
open PySem PySem.Spec PyProof.Rows

/-! ### lists of pairs as tables -/
section
variable {κ : Type} [DecidableEq κ]
def valV (kvs : List (κ × V)) (k : κ) : Option V := (kvs.find? fun kv => decide (kv.1 = k)).map (·.2)
/-- in its place, or at the end -/
def putK (kvs : List (κ × V)) (k : κ) (v : V) : List (κ × V) :=
  if (kvs.any fun kv => decide (kv.1 = k)) = true then kvs.map (fun kv => if kv.1 = k then (kv.1, v) else kv) else kvs ++ [(k, v)]
def dropK (kvs : List (κ × V)) (k : κ) : List (κ × V) := kvs.filter fun kv => decide (kv.1 ≠ k)

theorem valV_pos {p : κ × V} {r : List (κ × V)} {k : κ} (e : p.1 = k) : valV (p :: r) k = some p.2 := by simp [valV, List.find?_cons, e]
theorem valV_neg {p : κ × V} {r : List (κ × V)} {k : κ} (e : ¬ p.1 = k) : valV (p :: r) k = valV r k := by simp [valV, List.find?_cons, e]
theorem valV_any (k : κ) : ∀ kvs : List (κ × V), (kvs.any fun kv => decide (kv.1 = k)) = (valV kvs k).isSome
  | [] => rfl
  | p :: r => by
    rw [List.any_cons]
    by_cases e : p.1 = k
    · simp only [valV_pos e, decide_eq_true e, Bool.true_or, Option.isSome_some]
    · rw [valV_neg e, decide_eq_false e, Bool.false_or]; exact valV_any k r
theorem length_putK (kvs : List (κ × V)) (k : κ) (v : V) : (putK kvs k v).length ≤ kvs.length + 1 := by
  unfold putK
  split
  · rw [List.length_map]; omega
  · rw [List.length_append, List.length_cons, List.length_nil]; omega
theorem putK_new {kvs : List (κ × V)} {k : κ} (v : V) (h : valV kvs k = none) : putK kvs k v = kvs ++ [(k, v)] := by
  unfold putK
  rw [valV_any, h]
  exact if_neg (by decide)

theorem RelO.isSome_eq {o : Option V} {u : Option Value} (r : RelO o u) : o.isSome = u.isSome := by
  cases o with
  | none => cases u with
    | none => rfl
    | some _ => exact (show False from r).elim
  | some _ => cases u with
    | none => exact (show False from r).elim
    | some _ => rfl
theorem RelO.getD {o : Option V} {u : Option Value} {d : V} {d' : Value} (r : RelO o u) (rd : RelV d d') : RelV (o.getD d) (u.getD d') := by
  cases o with
  | none => cases u with
    | none => exact rd
    | some _ => exact (show False from r).elim
  | some _ => cases u with
    | none => exact (show False from r).elim
    | some _ => exact r

/-- raw tables of the same keys -/
theorem KV.val {kvs : List (κ × V)} {vs : List (κ × Value)} (r : KV kvs vs) (k : κ) : RelO (valV kvs k) (valueAt vs k) := by
  unfold KV at r
  induction r with
  | nil => exact True.intro
  | @cons p q ps qs h t ih =>
    obtain ⟨h1, h2⟩ := h
    by_cases e : p.1 = k
    · have e' : q.1 = k := h1.symm.trans e
      have b : valueAt (q :: qs) k = some q.2 := by simp [valueAt, List.find?_cons, e']
      rw [valV_pos e, b]; exact h2
    · have e' : ¬ q.1 = k := fun z => e (h1.trans z)
      have b : valueAt (q :: qs) k = valueAt qs k := by simp [valueAt, List.find?_cons, e']
      rw [valV_neg e, b]; exact ih
theorem KV.any {kvs : List (κ × V)} {vs : List (κ × Value)} (r : KV kvs vs) (k : κ) : (kvs.any fun kv => decide (kv.1 = k)) = vs.any fun kv => decide (kv.1 = k) := by
  unfold KV at r
  induction r with
  | nil => rfl
  | cons h t ih => rw [List.any_cons, List.any_cons, ih, h.1]
theorem KV.repl {kvs : List (κ × V)} {vs : List (κ × Value)} (r : KV kvs vs) (k : κ) {y : V} {u : Value} (ry : RelV y u) :
    KV (kvs.map fun kv => if kv.1 = k then (kv.1, y) else kv) (vs.map fun kv => if kv.1 = k then (kv.1, u) else kv) := by
  unfold KV at r ⊢
  induction r with
  | nil => exact .nil
  | @cons p q ps qs h t ih =>
    rw [List.map_cons, List.map_cons]
    refine .cons ?_ ih
    obtain ⟨h1, h2⟩ := h
    by_cases e : p.1 = k
    · rw [if_pos e, if_pos (h1.symm.trans e)]; exact ⟨h1, ry⟩
    · rw [if_neg e, if_neg (fun z => e (h1.trans z))]; exact ⟨h1, h2⟩
theorem KV.put {kvs : List (κ × V)} {vs : List (κ × Value)} (r : KV kvs vs) (k : κ) {y : V} {u : Value} (ry : RelV y u) : KV (putK kvs k y) (stored vs k u) := by
  unfold putK stored
  rw [r.any k]
  by_cases e : (vs.any fun kv => decide (kv.1 = k)) = true
  · rw [if_pos e, if_pos e]; exact r.repl k ry
  · rw [if_neg e, if_neg e]; exact Paired.snoc r ⟨rfl, ry⟩
theorem KV.length {kvs : List (κ × V)} {vs : List (κ × Value)} (r : KV kvs vs) : kvs.length = vs.length := Paired.length r
end


/-! ### a tracked dict, its keys ints and texts or tuples of these -/
theorem kV_is {P : Program} {w : World} {k : Key} {u : Value} (r : RelV (kV k) u) : (mixKind P w).is k u = true := by
  cases k with
  | inl i => obtain ⟨t, e⟩ := (show ∃ t, u = Value.int i t from r); subst e; exact mixKind_int P w i t
  | inr x => obtain ⟨t, e⟩ := (show ∃ t, u = Value.str x t from r); subst e; exact mixKind_str P w x t
theorem items_are {P : Program} {w : World} : ∀ {ks : List Key} {us : List Value}, Vals (ks.map kV) us → ItemsAre (mixKind P w) ks us
  | [], _, r => by rw [List.map_nil] at r; cases r; exact .nil
  | k :: ks, _, r => by
    rw [List.map_cons] at r
    cases r with
    | cons h t => exact .cons (kV_is h) (items_are t)

/-- raw entries of a dict with tuple keys -/
abbrev KT (H : Hp) : List (List Key × V) → List (List Key × Addr × Value) → Prop := Paired fun p q => p.1 = q.1 ∧ H q.2.1 = some (.tup (p.1.map kV)) ∧ RelV p.2 q.2.2
theorem KT.val {H : Hp} {kvs : List (List Key × V)} {xs : List (List Key × Addr × Value)} (r : KT H kvs xs) (k : List Key) : RelO (valV kvs k) ((atKey xs k).map (·.2)) := by
  induction r with
  | nil => exact True.intro
  | @cons p q ps qs h t ih =>
    obtain ⟨h1, _, h2⟩ := h
    by_cases e : p.1 = k
    · have e' : q.1 = k := h1.symm.trans e
      have b : atKey (q :: qs) k = some q.2 := by simp [atKey, List.find?_cons, e']
      rw [valV_pos e, b]; exact h2
    · have e' : ¬ q.1 = k := fun z => e (h1.trans z)
      have b : atKey (q :: qs) k = atKey qs k := by simp [atKey, List.find?_cons, e']
      rw [valV_neg e, b]; exact ih
theorem KT.repl {H : Hp} {kvs : List (List Key × V)} {xs : List (List Key × Addr × Value)} (r : KT H kvs xs) (k : List Key) {y : V} {u : Value} (ry : RelV y u) :
    KT H (kvs.map fun kv => if kv.1 = k then (kv.1, y) else kv) (xs.map (putAt k u)) := by
  induction r with
  | nil => exact .nil
  | @cons p q ps qs h t ih =>
    rw [List.map_cons, List.map_cons]
    refine .cons ?_ ih
    obtain ⟨h1, h2, h3⟩ := h
    unfold putAt
    by_cases e : p.1 = k
    · rw [if_pos e, if_pos (h1.symm.trans e)]; exact ⟨h1, h2, ry⟩
    · rw [if_neg e, if_neg (fun z => e (h1.trans z))]; exact ⟨h1, h2, h3⟩
theorem KT.put {H : Hp} {kvs : List (List Key × V)} {xs : List (List Key × Addr × Value)} (r : KT H kvs xs) (k : List Key) {b : Addr} {y : V} {u : Value} (hb : H b = some (.tup (k.map kV))) (ry : RelV y u) :
    KT H (putK kvs k y) (storedH xs k b u) := by
  have e : (kvs.any fun kv => decide (kv.1 = k)) = (atKey xs k).isSome := by
    rw [valV_any, (r.val k).isSome_eq, Option.isSome_map]
  unfold putK storedH
  rw [e]
  by_cases q : (atKey xs k).isSome = true
  · rw [if_pos q, if_pos q]; exact r.repl k ry
  · rw [if_neg q, if_neg q]; exact Paired.snoc r ⟨rfl, hb, ry⟩
theorem KT.keeps {H H' : Hp} {kvs : List (List Key × V)} {xs : List (List Key × Addr × Value)} (r : KT H kvs xs) (ht : ∀ b ys, H b = some (.tup ys) → H' b = some (.tup ys)) : KT H' kvs xs :=
  Paired.mapP r fun _ _ z => ⟨z.1, ht _ _ z.2.1, z.2.2⟩

section
variable {P : Program} {w : World} {H : Hp} {h : Heap} {a : Addr}
theorem rd_of {u : HO} (ok : HOk P w H h) (e : Rd H a u) : ObjOk P w H h a u := e.ok ok
theorem dk_rd {kvs : List (Key × V)} (ok : HOk P w H h) (e : Rd H a (.dK kvs)) : kvs.length ≤ sizeLine ∧ (a == sysModules) = false ∧ ∃ vs, KV kvs vs ∧ h.DictOf (mixKind P w) a vs :=
  show ObjOk P w H h a (.dK kvs) from rd_of ok e
theorem dk_of {kvs : List (Key × V)} (ok : HOk P w H h) (e : H a = some (.dK kvs)) : kvs.length ≤ sizeLine ∧ (a == sysModules) = false ∧ ∃ vs, KV kvs vs ∧ h.DictOf (mixKind P w) a vs := dk_rd ok (.inl e)
/-- a tracked tuple of ints and texts is a key -/
theorem key_of {ks : List Key} (ok : HOk P w H h) (e : H a = some (.tup (ks.map kV))) : (tupleKind (mixKind P w)).is h ks a := by
  obtain ⟨_, its, r, o, h1, h2, n, h3⟩ := (show ObjOk P w H h a (.tup (ks.map kV)) from ok a _ e)
  exact ⟨o, its.toArray, n, h1, h2, h3, by simpa using items_are r⟩
theorem dt_rd {kvs : List (List Key × V)} (ok : HOk P w H h) (e : Rd H a (.dT kvs)) : kvs.length ≤ sizeLine ∧ (a == sysModules) = false ∧
    ∃ xs, KT H kvs xs ∧ h.DictOfH (tupleKind (mixKind P w)) a xs := by
  obtain ⟨z, y, xs, r, o, es, ep, h1, h2, h3, h4, h5⟩ := (show ObjOk P w H h a (.dT kvs) from rd_of ok e)
  refine ⟨z, y, xs, r, o, es, ep, h1, h2, h3, h4, fun x hx => ?_, h5⟩
  have all : ∀ {l : List (List Key × V)} {m : List (List Key × Addr × Value)}, KT H l m → ∀ x ∈ m, (tupleKind (mixKind P w)).is h x.1 x.2.1 := by
    intro l m q
    induction q with
    | nil => intro x hx; exact nomatch hx
    | @cons p q ps qs hq t ih =>
      intro x hx
      rcases List.mem_cons.mp hx with e | hx
      · subst e
        exact key_of ok (by rw [← hq.1]; exact hq.2.1)
      · exact ih x hx
  exact all r x hx
theorem dt_of {kvs : List (List Key × V)} (ok : HOk P w H h) (e : H a = some (.dT kvs)) : kvs.length ≤ sizeLine ∧ (a == sysModules) = false ∧
    ∃ xs, KT H kvs xs ∧ h.DictOfH (tupleKind (mixKind P w)) a xs := dt_rd ok (.inl e)
end

/-- what the dict at a holds at the key y -/
def DGet (H : Hp) (a : Addr) (y : V) (r : Option V) : Prop :=
  (∃ kvs k, Rd H a (.dK kvs) ∧ y = kV k ∧ r = valV kvs k) ∨ ∃ kvs k b, Rd H a (.dT kvs) ∧ y = .ref b ∧ H b = some (.tup (k.map kV)) ∧ r = valV kvs k
/-- the heap behind a[y] = v -/
def DPut (H : Hp) (a : Addr) (y v : V) (H' : Hp) : Prop :=
  (∃ kvs k, H a = some (.dK kvs) ∧ y = kV k ∧ kvs.length < sizeLine ∧ H' = upd H a (.dK (putK kvs k v))) ∨
  ∃ kvs k b, H a = some (.dT kvs) ∧ y = .ref b ∧ H b = some (.tup (k.map kV)) ∧ kvs.length < sizeLine ∧ H' = upd H a (.dT (putK kvs k v))
theorem DGet.t {H : Hp} {a b : Addr} {kvs : List (List Key × V)} {k : List Key} (e : H a = some (.dT kvs)) (eb : H b = some (.tup (k.map kV))) : DGet H a (.ref b) (valV kvs k) := .inr ⟨kvs, k, b, .inl e, rfl, eb, rfl⟩
theorem DPut.t {H : Hp} {a b : Addr} {kvs : List (List Key × V)} {k : List Key} {v : V} (e : H a = some (.dT kvs)) (eb : H b = some (.tup (k.map kV))) (hl : kvs.length < sizeLine) :
    DPut H a (.ref b) v (upd H a (.dT (putK kvs k v))) := .inr ⟨kvs, k, b, e, rfl, eb, hl, rfl⟩


section
variable {X : Cx} {pins : List (Addr × Obj)} {σ : St} {H : Hp} {s : Shared} {a : Addr} {y v : V} {u r : Value} {o : Option V} {A : Around} {E : Value → Shared → Prop}

theorem Inv.big (I : Inv X pins σ H s) : sysModules < s.heap.objs.size := by
  have h : mainGlobals < s.heap.objs.size := (I.mod.glob.keeps I.bk).lt
  exact Nat.lt_trans (by decide) h

/-- d[y], there -/
theorem d_getItem {Q : Value → Shared → Prop} (hu : A.units + 1 < cLine) (I : Inv X pins σ H s) (g : DGet H a y (some v)) (ry : RelV y u) (h : ∀ w' s', Inv X pins σ H s' → RelV v w' → Q w' s') :
    wpAny (model X.prog X.w) A (getItem (.ref a) u) Q E s := by
  rcases g with ⟨kvs, k, e, ey, l⟩ | ⟨kvs, k, b, e, ey, eb, l⟩
  · subst ey
    obtain ⟨z, hd, vs, rel, dd⟩ := dk_rd I.hok e
    obtain ⟨w', hw, rw'⟩ := RelO.some_of (v := v) (o := valueAt vs k) (by rw [l]; exact rel.val k)
    exact wpAny_getItem_of (kV_is ry) dd.mapOf hw (h w' _ (I.tok _) rw')
  · subst ey
    cases (show u = Value.ref b from ry)
    obtain ⟨z, hd, xs, rel, dd⟩ := dt_rd I.hok e
    obtain ⟨w', hw, rw'⟩ := RelO.some_of (v := v) (o := (atKey xs k).map (·.2)) (by rw [l]; exact rel.val k)
    obtain ⟨p, hp, hp2⟩ := Option.map_eq_some_iff.mp hw
    refine wpAny_getItem_heap (tupleKind_room_in1 hu) (key_of I.hok eb) dd hp ?_
    rw [hp2]
    exact h w' _ (I.tok _) rw'
theorem d_notIn {Q : Value → Shared → Prop} (hu : A.units + 1 < cLine) (I : Inv X pins σ H s) (g : DGet H a y o) (ry : RelV y u) (h : ∀ s', Inv X pins σ H s' → Q (.bool (!o.isSome)) s') :
    wpAny (model X.prog X.w) A (compareOp .NotIn u (.ref a)) Q E s := by
  rcases g with ⟨kvs, k, e, ey, l⟩ | ⟨kvs, k, b, e, ey, eb, l⟩
  · subst ey
    obtain ⟨z, hd, vs, rel, dd⟩ := dk_rd I.hok e
    refine wpAny_notIn_of (kV_is ry) hd dd.mapOf ?_
    rw [← (rel.val k).isSome_eq, ← l]
    exact h _ (I.tok _)
  · subst ey
    cases (show u = Value.ref b from ry)
    obtain ⟨z, hd, xs, rel, dd⟩ := dt_rd I.hok e
    refine wpAny_notIn_heap (tupleKind_room_in1 hu) (key_of I.hok eb) hd dd ?_
    have q := (rel.val k).isSome_eq
    rw [Option.isSome_map] at q
    rw [← q, ← l]
    exact h _ (I.tok _)
/-- a dict's object is replaced -/
theorem d_write {h' : Heap} {t' : Nat} {ob : HO} (I : Inv X pins σ H s) (mu : Mut (H a)) (hs : Heap.SameBut a s.heap h') (he : ∃ q, h'.get? a = some q) (new : ObjOk X.prog X.w (upd H a ob) h' a ob) :
    Inv X pins σ (upd H a ob) { s with heap := h', toks := t' } :=
  I.write (x := a) (e := a) mu (.inl rfl) (fun b q hb z => (hs.2 b hb).trans z) he new
theorem dk_new {P : Program} {w : World} {H' : Hp} {h' : Heap} {kvs : List (Key × V)} {vs : List (Key × Value)} (z : kvs.length ≤ sizeLine) (hd : (a == sysModules) = false) (rel : KV kvs vs) (dd : h'.DictOf (mixKind P w) a vs) :
    ObjOk P w H' h' a (.dK kvs) := ⟨z, hd, vs, rel, dd⟩
/-- d[y] = v -/
theorem d_setItem {H' : Hp} {Q : Unit → Shared → Prop} (hu : A.units + 1 < cLine) (I : Inv X pins σ H s) (g : DPut H a y v H') (ry : RelV y u) (rv : RelV v r) (h : ∀ s', Inv X pins σ H' s' → Q () s') :
    wpAny (model X.prog X.w) A (setItem (.ref a) u r) Q E s := by
  rcases g with ⟨kvs, k, e, ey, l, eH⟩ | ⟨kvs, k, b, e, ey, eb, l, eH⟩
  · subst ey eH
    obtain ⟨z, hd, vs, rel, dd⟩ := dk_of I.hok e
    have hz : vs.length ≤ sizeLine := by rw [← rel.length]; exact z
    have hl : (putK kvs k v).length ≤ sizeLine := by have := length_putK kvs k v; omega
    refine wpAny_setItem_pairs (hsz := hz) (kV_is ry) dd fun h' dd' hs => h _ ?_
    have he : ∃ q, h'.get? a = some q := let ⟨q, _, _, hq, _⟩ := dd'; ⟨q, hq⟩
    exact d_write I (by rw [e]; exact True.intro) hs he (dk_new hl hd (rel.put k rv) dd')
  · subst ey eH
    cases (show u = Value.ref b from ry)
    obtain ⟨z, hd, xs, rel, dd⟩ := dt_of I.hok e
    have hz : xs.length ≤ sizeLine := by rw [← Paired.length rel]; exact z
    have hl : (putK kvs k v).length ≤ sizeLine := by have := length_putK kvs k v; omega
    refine wpAny_setItem_heap (hsz := hz) (tupleKind_room_in1 hu) (key_of I.hok eb) dd fun h' dd' hs => h _ ?_
    obtain ⟨q, es, ep, hq, h2, h3, h4, _, h5⟩ := dd'
    refine d_write I (by rw [e]; exact True.intro) hs ⟨q, hq⟩ ⟨hl, hd, _, (rel.put k eb rv).keeps fun c ys ec => ?_, q, es, ep, hq, h2, h3, h4, h5⟩
    rw [upd_ne (ne_of ec e (fun z => nomatch z))]
    exact ec
end

section
variable {X : Cx} {pins : List (Addr × Obj)} {σ : St} {H : Hp} {s : Shared} {a : Addr} {kvs : List (Key × V)} {k : Key} {u : Value} {A : Around} {E : Value → Shared → Prop}
end


/-! ### readings and rules -/
/-- the element of a subscription, not a slice -/
def NoSl (i : Expr) : Prop := ∀ ov iv, subscripted i false ov iv = operate [ov, iv] (getItem ov iv)
theorem subD_of {prog : Program} {w : World} {A : Around} {E : Value → Shared → Prop} {s : Shared} {env : Env} {value slice : Expr} {pos : Pos} {T id : String} {Q : Value → Shared → Prop}
    (hl : typeLookup (.type T) "__getitem__" = pure (some (.builtin id))) (hs : NoSl slice)
    (h : wpAny (model prog w) A (eval value env) (fun o s₁ => wpAny (model prog w) A (eval slice env) (fun i s₂ => s₂.TypeIs o T ∧ wpAny (model prog w) A (getItem o i) Q E s₂) E s₁) E s) :
    wpAny (model prog w) A (eval (.Subscript value slice pos) env) Q E s := by
  refine Subscript_ (wpAny_mono h (fun o s₁ h₁ => wpAny_mono h₁ (fun i s₂ h₂ => ?_) fun _ _ x => x) fun _ _ x => x)
  obtain ⟨hT, h₂⟩ := h₂
  unfold subscriptTail
  refine wpAny_bind ?_
  rw [getitemInPython_of_ne hT.not_modules]
  refine wpAny_bind (wpAny_specialOf hT hl ?_)
  have fin : wpAny (model prog w) A (subscripted slice false o i) (fun r s₃ => wpAny (model prog w) A (letTemporaryGo value o r >>= fun _ => pure r) Q E s₃) E s₂ := by
    rw [hs o i]
    exact wpAny_operating (wpAny_mono h₂ (fun r s₃ h₃ => wpAny_bind (wpAny_letTemporaryGo (wpAny_pure h₃))) fun _ _ x => x)
  first
    | exact wpAny_pure (wpAny_bind fin)
    | exact wpAny_bind (wpAny_pure (wpAny_bind fin))
    | exact wpAny_bind fin

theorem dict_typeIs {X : Cx} {pins : List (Addr × Obj)} {σ : St} {H : Hp} {s : Shared} {a : Addr} {y : V} {o : Option V} (I : Inv X pins σ H s) (g : DGet H a y o) : s.TypeIs (.ref a) "dict" := by
  rcases g with ⟨kvs, k, e, _, _⟩ | ⟨kvs, k, b, e, _, _, _⟩
  · obtain ⟨_, _, vs, _, dd⟩ := dk_rd I.hok e
    exact dd.typeIs
  · obtain ⟨_, _, xs, _, dd⟩ := dt_rd I.hok e
    exact dd.typeIs
/-- d[y] -/
def tDGet (td ty : TE) : TE := fun σ H Q => td σ H fun x H1 => ty σ H1 fun y H2 => ∃ a v, x = .ref a ∧ DGet H2 a y (some v) ∧ Q v H2
/-- y in d, y not in d -/
def tDIn (ty td : TE) : TE := fun σ H Q => ty σ H fun y H1 => td σ H1 fun x H2 => ∃ a o, x = .ref a ∧ DGet H2 a y o ∧ Q (.bl o.isSome) H2
def tDNotIn (ty td : TE) : TE := fun σ H Q => ty σ H fun y H1 => td σ H1 fun x H2 => ∃ a o, x = .ref a ∧ DGet H2 a y o ∧ Q (.bl (!o.isSome)) H2
/-- d[y] = v -/
def sDPut (td ty tv : TE) : TS := fun D σ H => tv σ H fun v H1 => td σ H1 fun x H2 => ty σ H2 fun y H3 => ∃ a H4, x = .ref a ∧ DPut H3 a y v H4 ∧ D.nx σ H4
/-- d[y] op= v -/
def sDAug (td ty tv : TE) (rd : V → V → Hp → VK → Prop) : TS := fun D σ H => td σ H fun x H1 => ty σ H1 fun y H2 => ∃ a v, x = .ref a ∧ DGet H2 a y (some v) ∧
  tv σ H2 fun y2 H3 => rd v y2 H3 fun z H4 => ∃ H5, DPut H4 a y z H5 ∧ D.nx σ H5
/-- del d[y] -/
def sDDel (td ty : TE) : TS := fun D σ H => td σ H fun x H1 => ty σ H1 fun y H2 => ∃ a kvs k, x = .ref a ∧ H2 a = some (.dK kvs) ∧ y = kV k ∧ (valV kvs k).isSome = true ∧ D.nx σ (upd H2 a (.dK (dropK kvs k)))

section
variable {X : Cx} {o i e value : Expr} {pos pos' tpos : Pos} {td ty tv : TE}
theorem pe_dget (hu : X.A.units + 1 < cLine) (ho : PE X o td) (hi : PE X i ty) (hs : NoSl i) : PE X (.Subscript o i pos) (tDGet td ty) := by
  intro pins s σ H Q I h
  refine subD_of PySem.F.slot_dict_getitem.lookup hs (thn (ho pins s σ H _ I h) fun u s1 ⟨x, H1, I1, rx, q1⟩ => thn (hi pins s1 σ H1 _ I1 q1) fun iv s2 ⟨y, H2, I2, ry, a, v, ex, g, q2⟩ => ?_)
  subst ex
  obtain rfl : u = Value.ref a := rx
  exact ⟨dict_typeIs I2 g, d_getItem hu I2 g ry fun w' s3 I3 rw' => ⟨v, H2, I3, rw', q2⟩⟩
theorem pc_dnotin (hu : X.A.units + 1 < cLine) (hi : PE X i ty) (ho : PE X o td) : PC X .NotIn i o (tDNotIn ty td) := by
  intro pins s σ H Q I h
  refine thn (hi pins s σ H _ I h) fun iv s1 ⟨y, H1, I1, ry, q1⟩ => thn (ho pins s1 σ H1 _ I1 q1) fun u s2 ⟨x, H2, I2, rx, a, ov, ex, g, q2⟩ => ?_
  subst ex
  obtain rfl : u = Value.ref a := rx
  exact d_notIn hu I2 g ry fun s3 I3 => ⟨.bl (!ov.isSome), H2, I3, rfl, q2⟩
theorem ps_dput (hu : X.A.units + 1 < cLine) (ho : PE X o td) (hi : PE X i ty) (hv : PE X value tv) (hs : swapsWith value (some (.Subscript o i pos')) pos.line X.env = pure false) :
    PS X (.Assign [.Subscript o i pos'] value pos) (sDPut td ty tv) := by
  intro pins s σ H D I h
  refine wpAny_Assign_Subscript (thn (hv pins s σ H _ I h) fun r s1 ⟨v, H1, I1, rv, q1⟩ => thn (ho pins s1 σ H1 _ I1 q1) fun u s2 ⟨x, H2, I2, rx, q2⟩ => thn (hi pins s2 σ H2 _ I2 q2) fun iv s3 ⟨y, H3, I3, ry, a, H4, ex, g, q3⟩ => ?_) hs
  subst ex
  obtain rfl : u = Value.ref a := rx
  exact d_setItem hu I3 g ry rv fun s4 I4 => ⟨σ, H4, I4, q3⟩
end


/-! ### displays -/
theorem dt_empty {P : Program} {w : World} {H : Hp} (h : Heap) (hb : sysModules < h.objs.size) : ObjOk P w H (h.push { cls := .type "dict", data := .dict #[] }) h.objs.size (.dT []) :=
  ⟨Nat.zero_le _, beq_eq_false_iff_ne.mpr (Ne.symm (Nat.ne_of_lt hb)), [], .nil, _, #[], 0, Heap.get?_push_size _ rfl, ⟨rfl, rfl, rfl⟩, rfl, rfl, List.nodup_nil⟩
/-- {}, to be a dict of the kind that is wanted -/
def tDNewK : TE := fun _ H Q => ∀ p, H p = none → Q (.ref p) (upd H p (.dK []))
def tDNewT : TE := fun _ H Q => ∀ p, H p = none → Q (.ref p) (upd H p (.dT []))
section
variable {X : Cx} {pos : Pos}
theorem pe_dnewT : PE X (.Dict [] [] pos) tDNewT := fun pins s σ H Q I h =>
  wpAny_Dict_empty ⟨.ref s.heap.objs.size, _, I.laid (a := s.heap.objs.size) (o := .dT []) (t' := s.toks) (fun _ _ q => Heap.get?_push_of_some _ q) (Nat.le_refl _) (dt_empty s.heap I.big), rfl, h _ (I.hok.fresh (Nat.le_refl _))⟩
end

/-- the pairs of a display, from the left -/
def tPairs : List (TE × TE) → St → Hp → (List (V × V) → Hp → Prop) → Prop
  | [], _, H, Q => Q [] H
  | (tk, tv) :: r, σ, H, Q => tk σ H fun x H1 => tv σ H1 fun y H2 => tPairs r σ H2 fun ps H3 => Q ((x, y) :: ps) H3
abbrev VV : List (V × V) → List (Value × Value) → Prop := Paired fun p q => RelV p.1 q.1 ∧ RelV p.2 q.2
def PPs (X : Cx) (pos : Pos) (keys : List (Option Expr)) (values : List Expr) (trs : List (TE × TE)) : Prop :=
  ∀ (pins : List (Addr × Obj)) (s : Shared) (σ : St) (H : Hp) (Q : List (V × V) → Hp → Prop), Inv X pins σ H s → tPairs trs σ H Q →
    wpAny (model X.prog X.w) X.A (evalPairs (pairTrees keys values X.env pos)) (fun vs s' => ∃ ps H', Inv X pins σ H' s' ∧ VV ps vs ∧ Q ps H') X.xe s
def mergeK (kvs more : List (Key × V)) : List (Key × V) := more.foldl (fun acc kv => putK acc kv.1 kv.2) kvs
/-- {k: v, ..} with keys ints and texts; the new dict stands empty while the pairs are made -/
def tDisp (trs : List (TE × TE)) : TE := fun σ H Q => ∀ p, H p = none → tPairs trs σ (upd H p (.dK [])) fun ps H2 => H2 p = some (.dK []) ∧ ∃ kvs : List (Key × V), ps = kvs.map (fun kv => (kV kv.1, kv.2)) ∧ kvs.length ≤ 15 ∧ Q (.ref p) (upd H2 p (.dK (mergeK [] kvs)))
/-! ### methods -/
/-- a method call o.m(e) of a built-in, with one argument: what must be seen of the text -/
structure M1 (X : Cx) (o : Expr) (m : Str) (apos : Pos) (e : Expr) (cpos : Pos) : Prop where
  base : attributeBase o m X.env (eval o X.env) = eval o X.env
  few : ((backTo cpos (starEach [e] X.env)).all (fun x => !x.1) && (backToKw cpos (keywordEach [] X.env)).all (fun x => x.1.isSome)
    && decide (([e] : List Expr).length + ([] : List Keyword).length + (if ([] : List Keyword).isEmpty then 0 else 1) < 30)) = true
  line : (apos.endLine == cpos.line) = true
  trees : backTo cpos (starEach [e] X.env) = [(false, eval e X.env)]
structure M2 (X : Cx) (o : Expr) (m : Str) (apos : Pos) (e f : Expr) (cpos : Pos) : Prop where
  base : attributeBase o m X.env (eval o X.env) = eval o X.env
  few : ((backTo cpos (starEach [e, f] X.env)).all (fun x => !x.1) && (backToKw cpos (keywordEach [] X.env)).all (fun x => x.1.isSome)
    && decide (([e, f] : List Expr).length + ([] : List Keyword).length + (if ([] : List Keyword).isEmpty then 0 else 1) < 30)) = true
  line : (apos.endLine == cpos.line) = true
  trees : backTo cpos (starEach [e, f] X.env) = [(false, eval e X.env), (false, eval f X.env)]

/-- a is a dict, whatever its keys -/
def IsD (H : Hp) (a : Addr) : Prop := (∃ kvs, Rd H a (.dK kvs)) ∨ ∃ kvs, Rd H a (.dT kvs)
theorem isD_at {X : Cx} {pins : List (Addr × Obj)} {σ : St} {H : Hp} {s : Shared} {a : Addr} (I : Inv X pins σ H s) (d : IsD H a) :
    s.TypeIs (.ref a) "dict" ∧ (∀ b, Value.ref a = .ref b → ∃ ob, s.heap.get? b = some ob ∧ ob.dict = none) ∧ (a == sysModules) = false := by
  rcases d with ⟨kvs, e⟩ | ⟨kvs, e⟩
  · obtain ⟨_, hd, vs, _, dd⟩ := dk_rd I.hok e
    refine ⟨dd.typeIs, fun b q => ?_, hd⟩
    cases q
    obtain ⟨ob, _, _, h1, h2, _⟩ := dd
    exact ⟨ob, h1, h2.2.1⟩
  · obtain ⟨_, hd, xs, _, dd⟩ := dt_rd I.hok e
    refine ⟨dd.typeIs, fun b q => ?_, hd⟩
    cases q
    obtain ⟨ob, _, _, h1, h2, _⟩ := dd
    exact ⟨ob, h1, h2.2.1⟩

section
variable {X : Cx} {pins : List (Addr × Obj)} {σ : St} {H : Hp} {s : Shared} {a : Addr} {y d : V} {u r : Value} {o : Option V} {A : Around} {E : Value → Shared → Prop}
/-- d.get(y) -/
theorem d_get1 {Q : Value → Shared → Prop} (hu : A.units + 1 < cLine) (I : Inv X pins σ H s) (g : DGet H a y o) (ry : RelV y u) (h : ∀ w' s', Inv X pins σ H s' → RelV (o.getD .non) w' → Q w' s') :
    wpAny (model X.prog X.w) A (call (.builtin "dict.get") [.ref a, u]) Q E s := by
  rcases g with ⟨kvs, k, e, ey, l⟩ | ⟨kvs, k, b, e, ey, eb, l⟩
  · subst ey
    obtain ⟨z, hd, vs, rel, dd⟩ := dk_rd I.hok e
    refine call_meetsIn PySem.F.slot_dict_get dd.typeIs PySem.F.entry_dict_get (PySem.F.args_dict_get_2 _ _) (meets_dict_get (mixKind X.prog X.w) a (kV_is ry) hd) ⟨_, dd.mapOf, h _ _ (I.tok _) ?_⟩
    rw [l]
    exact (rel.val k).getD rfl
  · subst ey
    cases (show u = Value.ref b from ry)
    obtain ⟨z, hd, xs, rel, dd⟩ := dt_rd I.hok e
    refine call_meetsIn PySem.F.slot_dict_get dd.typeIs PySem.F.entry_dict_get (PySem.F.args_dict_get_2 _ _) (meetsH_dict_get (tupleKind (mixKind X.prog X.w)) a b hd) ⟨tupleKind_room_in1 hu, k, xs, key_of I.hok eb, dd, h _ _ (I.tok _) ?_⟩
    rw [l]
    exact (rel.val k).getD rfl
end

def tDGet1 (td ty : TE) : TE := fun σ H Q => td σ H fun x H1 => ∃ a, x = .ref a ∧ IsD H1 a ∧ ty σ H1 fun y H2 => ∃ o, DGet H2 a y o ∧ Q (o.getD .non) H2
def tDGet2 (td ty tx : TE) : TE := fun σ H Q => td σ H fun x H1 => ∃ a, x = .ref a ∧ IsD H1 a ∧ ty σ H1 fun y H2 => tx σ H2 fun z H3 => ∃ o, DGet H3 a y o ∧ Q (o.getD z) H3
/-- d.pop(k): there; d.pop(k, x): there or not -/
def tDPop1 (td ty : TE) : TE := fun σ H Q => td σ H fun x H1 => ∃ a, x = .ref a ∧ IsD H1 a ∧ ty σ H1 fun y H2 => ∃ kvs k v, H2 a = some (.dK kvs) ∧ y = kV k ∧ valV kvs k = some v ∧ Q v (upd H2 a (.dK (dropK kvs k)))
def tDPop2 (td ty tx : TE) : TE := fun σ H Q => td σ H fun x H1 => ∃ a, x = .ref a ∧ IsD H1 a ∧ ty σ H1 fun y H2 => tx σ H2 fun z H3 => ∃ kvs k, H3 a = some (.dK kvs) ∧ y = kV k ∧
  (∀ v, valV kvs k = some v → Q v (upd H3 a (.dK (dropK kvs k)))) ∧ (valV kvs k = none → Q z H3)
section
variable {X : Cx} {o e f : Expr} {apos cpos : Pos} {td ty tx : TE}
theorem pe_dget1 (hu : X.A.units + 1 < cLine) (ho : PE X o td) (he : PE X e ty) (m : M1 X o "get" apos e cpos) : PE X (.Call (.Attribute o "get" apos) [e] [] cpos) (tDGet1 td ty) := by
  intro pins s σ H Q I h
  refine wpAny_Call_method m.base m.few m.line PySem.F.plainAttrs_dict PySem.F.slot_dict_get PySem.F.type_dict_get (thn (ho pins s σ H _ I h) fun u s1 ⟨x, H1, I1, rx, a, ex, d, q1⟩ => ?_)
  subst ex
  obtain rfl : u = Value.ref a := rx
  obtain ⟨t1, t2, _⟩ := isD_at I1 d
  refine ⟨t1, t2, ?_⟩
  rw [m.trees]
  refine Calls.callWith_builtin rfl (Calls.evalArgs_plain (Calls.spliced_cons (thn (he pins s1 σ H1 _ I1 q1) fun iv s2 ⟨y, H2, I2, ry, ov, g, q2⟩ => Calls.spliced_nil ?_)))
  exact d_get1 hu I2 g ry fun w' s3 I3 rw' => ⟨_, H2, I3, rw', q2⟩
end

/-! ### dict(d): a copy -/
section
variable {X : Cx} {pins : List (Addr × Obj)} {σ : St} {H : Hp} {s : Shared} {a : Addr} {kvs : List (Key × V)} {A : Around} {E : Value → Shared → Prop}
end


section
variable {X : Cx} {pins : List (Addr × Obj)} {σ : St} {H : Hp} {s : Shared} {a : Addr} {y : V} {u : Value} {A : Around} {E : Value → Shared → Prop}
end
end L2

namespace L2
open PySem PySem.Spec PyProof.Rows

section
variable {prog : Program} {w : World} {A : Around} {E : Value → Shared → Prop}
end

section
variable {X : Cx}
end
end L2

namespace L2
open PySem PySem.Spec PyProof.Rows

section
variable {X : Cx} {pins : List (Addr × Obj)} {σ : St} {H : Hp} {s : Shared} {h' : Heap}
/-- .. and one new object is laid -/
theorem Inv.turnedNew {t' : Nat} {ch : List Addr} {T : Addr} {ob : HO} (I : Inv X pins σ H s) (k : ∀ b o, b ∉ ch → s.heap.get? b = some o → h'.get? b = some o) (hf : ∀ b ∈ ch, FpOk X pins H b) (hT : s.heap.objs.size ≤ T)
    (new : ObjOk X.prog X.w (upd H T ob) h' T ob) : Inv X pins σ (upd H T ob) { s with heap := h', toks := t' } := by
  have hn : H T = none := I.hok.fresh hT
  have nit : ∀ b u, H b = some u → b ∉ ch := fun b u e z => by
    have q := (hf b z).1
    rw [q] at e; cases e
  refine I.step (g' := s.gens) (d' := s.drawn) (ch := ch) (fun b hb => ⟨(hf b hb).2.2.2.1, (hf b hb).2.1, (hf b hb).2.2.2.2.1, (hf b hb).2.2.2.2.2⟩) (fun b o _ _ hc e _ => k b o hc e) (fun b o _ _ hc e _ => ⟨o.slots, k b o hc e⟩)
    (fun b o _ e n => ?_) (fun b o hc e => ⟨o, k b o hc e⟩) (fun b xs e => ?_) (fun b o u e => ?_) (fun b ps e => ⟨#[], ?_⟩) (fun m hm => ?_) (fun b u e => ?_) I.bare
  · rw [upd_ne (Nat.ne_of_lt (Nat.lt_of_lt_of_le (Heap.lt_size e) hT))]; exact n
  · rw [upd_ne (ne_of_none e hn)]; exact e
  · rw [upd_ne (ne_of_none e hn)]; exact e
  · rw [upd_ne (ne_of_none e hn), e]; simp
  · obtain ⟨o, es, ep, ho, r⟩ := hm
    exact ⟨o, es, ep, k _ o (fun z => (hf _ z).2.1 rfl) ho, r⟩
  · by_cases hb : b = T
    · subst hb
      rw [upd_same] at e
      cases e
      exact new
    · rw [upd_ne hb] at e
      refine (I.hok b u e).stay (fun c v hc q => k c v ?_ q) (fun c q => by rw [upd_ne (ne_of_none q hn)]; exact q) fun c xs q => by rw [upd_ne (ne_of_none q hn)]; exact q
      rcases hc with z | z
      · rw [z]; exact nit b u e
      · exact nit c _ z

/-! ### locking a thing while a statement runs -/
theorem Inv.lock {d : Addr} {u : HO} (I : Inv X pins σ H s) (h : H d = some u) (mu : Mut (some u)) : ∃ od, Inv X pins σ (upd H d (.frz od u)) s := by
  have x := I.hok d u h
  have ex : ∃ od, s.heap.get? d = some od := by
    cases u with
    | lst xs => obtain ⟨_, _, _, _, e⟩ := x; exact ⟨_, e⟩
    | dK kvs => obtain ⟨_, _, _, _, o, _, _, e, _⟩ := x; exact ⟨o, e⟩
    | dT kvs => obtain ⟨_, _, _, _, o, _, _, e, _⟩ := x; exact ⟨o, e⟩
    | set S n => obtain ⟨o, _, _, _, e, _⟩ := x; exact ⟨o, e⟩
    | ins C dx fs => obtain ⟨_, _, _, e, _⟩ := x; exact ⟨_, e⟩
    | ext φ => obtain ⟨_, ⟨_, e⟩, _⟩ := x; exact ⟨_, e⟩
    | _ => exact False.elim mu
  obtain ⟨od, e⟩ := ex
  have new : ObjOk X.prog X.w (upd H d (.frz od u)) s.heap d (.frz od u) := by
    refine ⟨e, x.stay (fun b v _ q => q) (fun b q => ?_) fun b xs q => ?_⟩
    · rw [upd_ne (fun z => by rw [z, h] at q; cases q; exact mu)]; exact q
    · rw [upd_ne (fun z => by rw [z, h] at q; cases q; exact mu)]; exact q
  exact ⟨od, I.write (x := d) (e := d) (t' := s.toks) (h' := s.heap) (by rw [h]; exact mu) (.inl rfl) (fun b v _ q => q) ⟨od, e⟩ new⟩
theorem Inv.nofrz {d : Addr} {u : HO} (I : Inv X pins σ H s) (h : H d = some u) (mu : Mut (some u)) : ∀ o' u', X.H_0 d ≠ some (.frz o' u') := fun o' u' e => by
  have q := I.base.frzs d o' u' e
  rw [h] at q
  cases q
  exact mu
theorem Inv.unlock {d : Addr} {od : Obj} {u : HO} (I : Inv X pins σ H s) (h : H d = some (.frz od u)) (hn : ∀ o' u', X.H_0 d ≠ some (.frz o' u')) : Inv X pins σ (upd H d u) s := by
  have neH : ∀ b o, H b = some o → (∀ o' u', o ≠ .frz o' u') → b ≠ d := fun b o e hne z => by
    rw [z, h] at e
    cases e
    exact hne _ _ rfl
  have neN : ∀ b, H b = none → b ≠ d := fun b e z => by rw [z, h] at e; cases e
  refine ⟨I.ok, I.os, I.bare, ⟨I.base.keep, I.base.slot, fun b o e n hx => ?_, I.base.there, fun b xs e => ?_, fun b o x e => ?_, fun b ps e => ?_⟩, I.loc, I.cell, ?_, fun x c e => ?_, fun p hp => ?_, fun b o e => ?_, I.len⟩
  · rw [upd_ne (neN b (I.base.free b o e n hx))]; exact I.base.free b o e n hx
  · have q := I.base.tups b xs e
    rw [upd_ne (neH b _ q (fun _ _ z => nomatch z))]; exact q
  · have q := I.base.frzs b o x e
    rw [upd_ne (fun z => by rw [z] at e; exact hn _ _ e)]; exact q
  · obtain ⟨m, q⟩ := I.base.tbls b ps e
    exact ⟨m, by rw [upd_ne (neH b _ q (fun _ _ z => nomatch z))]; exact q⟩
  · rw [upd_ne (neN _ I.free)]; exact I.free
  · rw [upd_ne (neN c (I.freeC x c e))]; exact I.freeC x c e
  · obtain ⟨e, n, r⟩ := I.pin p hp
    exact ⟨e, by rw [upd_ne (neN _ n)]; exact n, r⟩
  · by_cases hb : b = d
    · rw [hb, upd_same] at e
      cases e
      rw [hb]
      obtain ⟨_, x⟩ := I.hok d _ h
      exact x.stay (fun c v _ q => q) (fun c q => by rw [upd_ne (neH c _ q (fun _ _ z => nomatch z))]; exact q) fun c xs q => by rw [upd_ne (neH c _ q (fun _ _ z => nomatch z))]; exact q
    · rw [upd_ne hb] at e
      exact (I.hok b o e).stay (fun c v _ q => q) (fun c q => by rw [upd_ne (neH c _ q (fun _ _ z => nomatch z))]; exact q) fun c xs q => by rw [upd_ne (neH c _ q (fun _ _ z => nomatch z))]; exact q
end
/-- the statement runs while the thing at d is locked (read, not written); d and what stands there are the reading's choice -/
def tLock (t : TS) : TS := fun D σ H => ∃ d u, H d = some u ∧ Mut (some u) ∧ ∀ od, t ⟨fun σ' H' => H' d = some (.frz od u) ∧ D.nx σ' (upd H' d u), fun v H' => H' d = some (.frz od u) ∧ D.rt v (upd H' d u), fun σ' H' => H' d = some (.frz od u) ∧ D.bk σ' (upd H' d u), fun σ' H' => H' d = some (.frz od u) ∧ D.ct σ' (upd H' d u)⟩ σ (upd H d (.frz od u))
def tLockE (t : TE) : TE := fun σ H Q => ∃ d u, H d = some u ∧ Mut (some u) ∧ ∀ od, t σ (upd H d (.frz od u)) fun v H' => H' d = some (.frz od u) ∧ Q v (upd H' d u)
section
variable {X : Cx}
theorem ps_lock {st : Stmt} {t : TS} (h : PS X st t) : PS X st (tLock t) := by
  intro pins s σ H D I hw
  obtain ⟨d, u, hd, mu, hw⟩ := hw
  obtain ⟨od, I1⟩ := I.lock hd mu
  refine thn (h pins s σ _ _ I1 (hw od)) fun f s1 q => ?_
  cases f with
  | next => obtain ⟨σ', H', I2, e, q⟩ := q; exact ⟨σ', _, I2.unlock e (I.nofrz hd mu), q⟩
  | brk => obtain ⟨σ', H', I2, e, q⟩ := q; exact ⟨σ', _, I2.unlock e (I.nofrz hd mu), q⟩
  | cont => obtain ⟨σ', H', I2, e, q⟩ := q; exact ⟨σ', _, I2.unlock e (I.nofrz hd mu), q⟩
  | ret v => obtain ⟨x, σ', H', I2, r, e, q⟩ := q; exact ⟨x, σ', _, I2.unlock e (I.nofrz hd mu), r, q⟩
/-! ### one iterator just laid -/
theorem pi_one {tg : Expr} {pins : List (Addr × Obj)} {σ : St} {H : Hp} {s : Shared} {R : It → Hp → Prop} {J : It} {tn : Nat → Heap → Prop} {tk : Nat} (I : Inv X pins σ H s) (o : Obj)
    (T : Turn X.prog X.w X.K tg J [s.heap.objs.size] s.heap.objs.size tn) (st : tn 0 (s.heap.push o)) (q : R J H) : PIE X pins σ tg R (.ref s.heap.objs.size) { s with heap := s.heap.push o, toks := tk } := by
  refine ⟨s.heap.objs.size, [s.heap.objs.size], tn, J, H, rfl, I.kept fun b ob e => Heap.get?_push_of_some _ e, T, st, fun b hb => ?_, q⟩
  have e : b = s.heap.objs.size := by simpa using hb
  subst e
  exact I.fpOk (Nat.le_refl _) (I.hok.fresh (Nat.le_refl _))
end

/-! ### range with a step -/
/-- lo, lo + c, .. (n of them) -/
def Itc (lo c : Int) (n : Nat) : It := ⟨fun i _ => i < n, fun i H x H' => H' = H ∧ x = .int (lo + (i : Nat) * c), fun i _ => n ≤ i⟩
/-- range(i, j, c): small bounds, n items -/
def RgC (i j c : Int) (n : Nat) : Prop := c ≠ 0 ∧ c.natAbs < 1073741824 ∧ Builtin.Range.small i j c = true ∧ Builtin.Range.rangeSize i j c = n
def iRng3 (ta : TA) : TI := fun σ H R => ta σ H fun vs H1 => ∃ (i j c : Int) (n : Nat), vs = [.int i, .int j, .int c] ∧ RgC i j c n ∧ R (Itc i c n) H1
section
variable {X : Cx} {tg : Expr}
end
/-! ### reversed(list) -/
/-- the list at a (n items at the start, which the loop leaves there), from its end -/
def Itv (K : PySem.W.Frag) (a : Addr) (n : Nat) : It :=
  ⟨fun i H => i < n ∧ ∃ (xs : List V) (x : V), SqL K H a xs ∧ xs[n - 1 - i]? = some x, fun i H x H' => H' = H ∧ ∀ xs, SqL K H a xs → xs[n - 1 - i]? = some x, fun i _ => n ≤ i⟩
def iRev (K : PySem.W.Frag) (ta : TA) : TI := fun σ H R => ta σ H fun vs H1 => ∃ (a : Addr) (xs : List V), vs = [.ref a] ∧ SqL K H1 a xs ∧ R (Itv K a xs.length) H1
section
variable {X : Cx} {tg : Expr}
end

/-! ### a str -/
def Its (x : Str) : It := ⟨fun i _ => i < x.cps.size, fun i H v H' => H' = H ∧ ∃ c, x.cps[i]? = some c ∧ v = .str ⟨#[c]⟩, fun i _ => x.cps.size ≤ i⟩
def iStr (te : TE) : TI := fun σ H R => te σ H fun v H1 => ∃ x, v = .str x ∧ R (Its x) H1
/-! ### a dict's keys: any dict's entries -/
section
variable {prog : Program} {w : World} {A : Around} {E : Value → Shared → Prop} {s : Shared}
theorem iter_keys {d : Addr} {o : Obj} {es : Array DictEntry} {ep : Nat} {Q : Value → Shared → Prop} (hd : (d == sysModules) = false) (ho : s.heap.get? d = some o) (hc : o.ExactDict) (hdat : o.data = .dict es ep)
    (hQ : Q (.ref s.heap.objs.size) { s with heap := s.heap.push { cls := .type "dict_keyiterator", data := .fields #[.ref d, .int 0 0, .int es.size 0, .int ep 0] } }) :
    wpAny (model prog w) A (pyIter (.ref d)) Q E s := by
  have hT : s.TypeIs (.ref d) "dict" := ⟨o, ho, hc.1⟩
  refine wpAny_pyIter_slot hT F.slot_dict_iter (wpAny_call_entry F.slot_dict_iter hT F.entry_dict_iter ?_ (F.args_dict_iter_1 _))
  unfold Builtin.«dict.__iter__»
  refine wpAny_bind ?_
  unfold Builtin.Dict.dictSlotNone
  refine wpAny_bind (wpAny_notOrdered_dict hT ?_)
  show wpAny _ _ (pure (Value.ref d)) _ _ s
  refine wpAny_pure ?_
  show wpAny _ _ (Builtin.Dict.showsAll d >>= _) _ _ s
  unfold Builtin.Dict.showsAll
  rw [if_neg (by rw [hd]; exact Bool.false_ne_true)]
  refine wpAny_bind (wpAny_pure ?_)
  refine wpAny_bind (wpAny_dictEntries ho hdat ?_)
  refine wpAny_bind (wpAny_dictEpoch ho hdat ?_)
  refine wpAny_bind (wpAny_newObj_type (wpAny_pure ⟨_, rfl, "dict_keyiterator", _, ⟨_, Heap.get?_push_size _ rfl, rfl⟩, F.slot_dict_keyiterator_next.lookup, ?_⟩))
  simpa [rawInt] using hQ
theorem next_key_item {it d : Addr} {i n ep : Nat} {od : Obj} {es : Array DictEntry} {en : DictEntry} {Q : Option Value → Shared → Prop} (hit : s.heap.IsKeyIter it d i n ep) (hod : s.heap.get? d = some od) (hdd : od.data = .dict es ep)
    (hsz : es.size = n) (hx : es[i]? = some en) (hQ : ∀ h', h'.IsKeyIter it d (i + 1) n ep → Heap.SameBut it s.heap h' → Q (some en.key) { s with heap := h' }) : wpAny (model prog w) A (pyNext (.ref it)) Q E s := by
  obtain ⟨o, ho, hc, hd⟩ := id hit
  unfold pyNext
  refine wpAny_bind (wpAny_attempt (wpAny_callSpecial?_slot (name := Str.ofString "__next__") hit.typeIs F.slot_dict_keyiterator_next
    (wpAny_call_entry F.slot_dict_keyiterator_next hit.typeIs F.entry_dict_keyiterator_next ?_ (F.args_dict_keyiterator_next_1 _))))
  refine wpAny_bind (wpAny_pure ?_)
  refine wpAny_bind ?_
  refine wpAny_bind ?_
  first | refine wpAny_bind (wpAny_typeNameOfWhole_keyiter hit.typeIs (wpAny_pure ?_)) | refine wpAny_bind (wpAny_typeNameOf_keyiter hit.typeIs (wpAny_pure ?_))
  refine wpAny_bind (wpAny_fieldsOf ho hd ?_)
  have hown : Builtin.Dict_items.ownsTuple "dict_keyiterator" = false := by decide
  simp only [hown, Bool.false_eq_true, if_false]
  show wpAny _ _ (if (Value.ref d == Value.none) = true then _ else _) _ _ s
  rw [if_neg (show ¬ ((Value.ref d == Value.none) = true) from Bool.false_ne_true)]
  refine wpAny_bind (wpAny_pure ?_)
  refine wpAny_bind (wpAny_dictEntries hod hdd ?_)
  rw [if_neg (by rw [hsz]; simp)]
  refine wpAny_bind (wpAny_pure ?_)
  refine wpAny_bind (wpAny_dictEpoch hod hdd ?_)
  rw [if_neg (by simp)]
  refine wpAny_pure ?_
  obtain ⟨hlt', hen⟩ := Array.getElem?_eq_some_iff.mp hx
  simp only [show ¬ ((i : Int) < 0) from by omega, if_false, Int.toNat_natCast, Array.getElem?_eq_getElem hlt']
  refine wpAny_bind ?_
  first | refine wpAny_bind (wpAny_typeNameOfWhole_keyiter hit.typeIs (wpAny_pure ?_)) | refine wpAny_bind (wpAny_typeNameOf_keyiter hit.typeIs (wpAny_pure ?_))
  refine wpAny_bind (wpAny_isOneOf_keyiter hit.typeIs ?_)
  show wpAny _ _ (setField (.ref it) 1 (rawInt ((i : Int) + 1)) >>= _) _ _ s
  refine wpAny_bind (wpAny_setField ho hd (by simp) ?_)
  have hit' : (s.heap.update it (Obj.mapFields (·.setIfInBounds 1 (rawInt ((i : Int) + 1))))).IsKeyIter it d (i + 1) n ep :=
    ⟨_, Heap.get?_update_self _ ho (Obj.isFreed_of_fields (Obj.data_mapFields hd _)), (Obj.cls_mapFields ..).trans hc, by rw [Obj.data_mapFields hd]; simp [rawInt]⟩
  refine wpAny_bind (wpAny_holding ?_)
  refine wpAny_bind (wpAny_isOneOf_keyiter (s := { s with heap := s.heap.update it (Obj.mapFields (·.setIfInBounds 1 (rawInt ((i : Int) + 1)))) }) hit'.typeIs ?_)
  show wpAny _ _ (pure es[i].key) _ _ _
  rw [hen]
  exact wpAny_pure (wpAny_pure ⟨_, rfl, wpAny_pure (hQ _ hit' (Heap.SameBut.update ..))⟩)
theorem next_key_end {it d : Addr} {i n ep : Nat} {od : Obj} {es : Array DictEntry} {Q : Option Value → Shared → Prop} (hh : A.handled = none) (hit : s.heap.IsKeyIter it d i n ep) (hod : s.heap.get? d = some od) (hdd : od.data = .dict es ep)
    (hsz : es.size = n) (hge : n ≤ i) (hQ : ∀ h', Heap.ExtBut it s.heap h' → Q none { s with heap := h' }) : wpAny (model prog w) A (pyNext (.ref it)) Q E s := by
  obtain ⟨o, ho, hc, hd⟩ := id hit
  unfold pyNext
  refine wpAny_bind (wpAny_attempt (wpAny_callSpecial?_slot (name := Str.ofString "__next__") hit.typeIs F.slot_dict_keyiterator_next
    (wpAny_call_entry F.slot_dict_keyiterator_next hit.typeIs F.entry_dict_keyiterator_next ?_ (F.args_dict_keyiterator_next_1 _))))
  refine wpAny_bind (wpAny_pure ?_)
  refine wpAny_bind ?_
  refine wpAny_bind ?_
  first | refine wpAny_bind (wpAny_typeNameOfWhole_keyiter hit.typeIs (wpAny_pure ?_)) | refine wpAny_bind (wpAny_typeNameOf_keyiter hit.typeIs (wpAny_pure ?_))
  refine wpAny_bind (wpAny_fieldsOf ho hd ?_)
  have hown : Builtin.Dict_items.ownsTuple "dict_keyiterator" = false := by decide
  simp only [hown, Bool.false_eq_true, if_false]
  show wpAny _ _ (if (Value.ref d == Value.none) = true then _ else _) _ _ s
  rw [if_neg (show ¬ ((Value.ref d == Value.none) = true) from Bool.false_ne_true)]
  refine wpAny_bind (wpAny_pure ?_)
  refine wpAny_bind (wpAny_dictEntries hod hdd ?_)
  rw [if_neg (by rw [hsz]; simp)]
  refine wpAny_bind (wpAny_pure ?_)
  refine wpAny_bind (wpAny_dictEpoch hod hdd ?_)
  rw [if_neg (by simp)]
  refine wpAny_pure ?_
  have hge' : es.size ≤ i := by rw [hsz]; exact hge
  simp only [show ¬ ((i : Int) < 0) from by omega, if_false, Int.toNat_natCast, Array.getElem?_eq_none hge']
  refine wpAny_bind ?_
  first | refine wpAny_bind (wpAny_typeNameOfWhole_keyiter hit.typeIs (wpAny_pure ?_)) | refine wpAny_bind (wpAny_typeNameOf_keyiter hit.typeIs (wpAny_pure ?_))
  show wpAny _ _ (setField (.ref it) 0 .none >>= _) _ _ s
  refine wpAny_bind (wpAny_setField ho hd (by simp) ?_)
  show wpAny _ _ (newExc (.type "StopIteration") [] >>= _) _ _ _
  refine wpAny_bind ?_
  simp only [newExc, newTuple]
  refine wpAny_bind (wpAny_newObj_type ?_ (by size_fits))
  refine wpAny_bind (m := firstArgMember _ _) (wpAny_of_eq (a := Value.none) (by first | rfl | (simp only [firstArgMember]; rfl)) ?_)
  refine wpAny_newObj_type ?_ (by size_fits)
  simp only [raiseNew]
  refine wpAny_bind (wpAny_handled ?_)
  rw [show A.in1.handled = none from hh]
  refine wpAny_bind (wpAny_pure (wpAny_throw ?_))
  refine wpAny_bind (wpAny_isInstance (T := "StopIteration") (b := true) ⟨_, Heap.get?_push_size _ rfl, rfl⟩ isSubtype_stop ?_)
  exact wpAny_pure (hQ _ (((Heap.SameBut.update ..).extBut.push _).push _))
end

/-! ### a locked dict -/
theorem kv_get {κ : Type} {kvs : List (κ × V)} {vs : List (κ × Value)} (h : KV kvs vs) : ∀ {i : Nat} {k : κ} {v : V}, kvs[i]? = some (k, v) → ∃ u, vs[i]? = some (k, u) ∧ RelV v u := by
  unfold KV at h
  induction h with
  | nil => intro i k v e; simp at e
  | @cons a b l₁ l₂ r t ih =>
    intro i k v e
    cases i with
    | zero =>
      simp only [List.getElem?_cons_zero, Option.some.injEq] at e
      subst e
      refine ⟨b.2, ?_, r.2⟩
      simp only [List.getElem?_cons_zero]
      exact congrArg some (Prod.ext r.1.symm rfl)
    | succ j =>
      simp only [List.getElem?_cons_succ] at e ⊢
      exact ih e
theorem paired_get {α β : Type} {G : α → β → Prop} {l₁ : List α} {l₂ : List β} (h : Paired G l₁ l₂) : ∀ {i : Nat} {a : α}, l₁[i]? = some a → ∃ b, l₂[i]? = some b ∧ G a b := by
  induction h with
  | nil => intro i a e; simp at e
  | @cons a b l₁ l₂ r t ih =>
    intro i a' e
    cases i with
    | zero =>
      simp only [List.getElem?_cons_zero, Option.some.injEq] at e
      subst e
      exact ⟨b, rfl, r⟩
    | succ j =>
      simp only [List.getElem?_cons_succ] at e ⊢
      exact ih e
theorem relV_key {k : Key} {u : Value} (h : keyIs k u = true) : RelV (kV k) u := by
  rcases keyIs_shape h with ⟨i, t, rfl, rfl⟩ | ⟨x, t, rfl, rfl⟩
  · exact ⟨t, rfl⟩
  · exact ⟨t, rfl⟩
section
variable {X : Cx} {pins : List (Addr × Obj)} {σ : St} {H : Hp} {s : Shared} {d : Addr} {o : Obj}
theorem Inv.frzK {kvs : List (Key × V)} (I : Inv X pins σ H s) (h : H d = some (.frz o (.dK kvs))) :
    (d == sysModules) = false ∧ s.heap.get? d = some o ∧ o.ExactDict ∧ ∃ (es : Array DictEntry) (ep : Nat) (vs : List (Key × Value)), o.data = .dict es ep ∧ es.size = kvs.length ∧ KV kvs vs ∧ s.heap.DictAt (mixKind X.prog X.w) d vs ep := by
  obtain ⟨hd, z, hs, vs, kv, o', es, ep, ho, hx, hdt, r⟩ := I.hok d _ h
  rw [hd] at ho
  cases ho
  refine ⟨hs, hd, hx, es, ep, vs, hdt, ?_, kv, o, es, hd, hx, hdt, r⟩
  have l1 := r.2.1.length
  have l2 : kvs.length = vs.length := Paired.length kv
  rw [Array.length_toList] at l1
  omega
/-- the same for tuple keys -/
theorem Inv.frzT {kvs : List (List Key × V)} (I : Inv X pins σ H s) (h : H d = some (.frz o (.dT kvs))) :
    (d == sysModules) = false ∧ s.heap.get? d = some o ∧ o.ExactDict ∧ ∃ (es : Array DictEntry) (ep : Nat), o.data = .dict es ep ∧ es.size = kvs.length ∧
      ∀ (i : Nat) (k : List Key) (v : V), kvs[i]? = some (k, v) → ∃ (en : DictEntry) (q : Addr), es[i]? = some en ∧ en.key = .ref q ∧ H q = some (.tup (k.map kV)) := by
  obtain ⟨hd, z, hs, xs, pr, o', es, ep, ho, hx, hdt, he, _⟩ := I.hok d _ h
  rw [hd] at ho
  cases ho
  refine ⟨hs, hd, hx, es, ep, hdt, ?_, fun i k v e => ?_⟩
  · have l1 : es.size = xs.length := size_of_entries he
    have l2 : kvs.length = xs.length := Paired.length pr
    omega
  · obtain ⟨b, hb, e1, e2, _⟩ := paired_get pr e
    have q := entry_at he i
    rw [hb] at q
    exact ⟨_, b.2.1, q, rfl, e2⟩
end

/-- the keys of the locked dict at d, in their order -/
def Itk (d : Addr) (o : Obj) (kvs : List (Key × V)) : It :=
  ⟨fun i H => H d = some (.frz o (.dK kvs)) ∧ i < kvs.length, fun i H x H' => H' = H ∧ ∃ k v, kvs[i]? = some (k, v) ∧ x = kV k, fun i H => H d = some (.frz o (.dK kvs)) ∧ kvs.length ≤ i⟩
/-- .. of tuple keys: the key's own tuple -/
def Itkt (d : Addr) (o : Obj) (kvs : List (List Key × V)) : It :=
  ⟨fun i H => H d = some (.frz o (.dT kvs)) ∧ i < kvs.length, fun i H x H' => H' = H ∧ ∃ (k : List Key) (v : V) (q : Addr), kvs[i]? = some (k, v) ∧ x = .ref q ∧ H q = some (.tup (k.map kV)), fun i H => H d = some (.frz o (.dT kvs)) ∧ kvs.length ≤ i⟩
/-- the values -/
def Itd (d : Addr) (o : Obj) (kvs : List (Key × V)) : It :=
  ⟨fun i H => H d = some (.frz o (.dK kvs)) ∧ i < kvs.length, fun i H x H' => H' = H ∧ ∃ k, kvs[i]? = some (k, x), fun i H => H d = some (.frz o (.dK kvs)) ∧ kvs.length ≤ i⟩
/-- the pairs, each a new tuple -/
def Iti (d : Addr) (o : Obj) (kvs : List (Key × V)) : It :=
  ⟨fun i H => H d = some (.frz o (.dK kvs)) ∧ i < kvs.length, fun i H x H' => ∃ T k v, kvs[i]? = some (k, v) ∧ x = .ref T ∧ H T = none ∧ H' = upd H T (.tup [kV k, v]), fun i H => H d = some (.frz o (.dK kvs)) ∧ kvs.length ≤ i⟩
theorem dict_ep {o : Obj} {es es' : Array DictEntry} {ep ep' : Nat} (h : o.data = .dict es ep) (h' : o.data = .dict es' ep') : es' = es ∧ ep' = ep := by
  rw [h] at h'
  cases h'
  exact ⟨rfl, rfl⟩
section
variable {P : Program} {w : World} {K : PySem.W.Frag} {tg : Expr} {d : Addr} {o : Obj} {es : Array DictEntry} {ep : Nat}
theorem turn_keys {kvs : List (Key × V)} (it : Addr) (hod : o.data = .dict es ep) : Turn P w K tg (Itk d o kvs) [it] it (fun i h => h.IsKeyIter it d i kvs.length ep) where
  mem := by simp
  obj := fun i h st b hb => by
    have e : b = it := by simpa using hb
    subst e
    obtain ⟨oi, e, c, dd⟩ := st
    exact ⟨oi, e, fun v z => by rw [dd] at z; cases z⟩
  keep := fun i h h' st k => st.at fun oi e => k it (by simp) oi e
  item := by
    intro X hP hw hK hc i pins s σ H E I hf st hg
    subst hP hw hK
    obtain ⟨hd, hi⟩ := hg
    obtain ⟨f0, f1, f2, f3, f4, f5⟩ := hf it (by simp)
    obtain ⟨hs, hgd, hx, es', ep', vs, hdt, hsz, kv, hm⟩ := I.frzK hd
    obtain ⟨rfl, rfl⟩ := dict_ep hod hdt
    obtain ⟨⟨k, v⟩, hkv⟩ : ∃ p, kvs[i]? = some p := ⟨kvs[i], List.getElem?_eq_getElem hi⟩
    obtain ⟨u, hu, ru⟩ := kv_get kv hkv
    have hl : kvs.length = vs.length := Paired.length kv
    rw [hl] at st
    refine wpAny_pyNext_dict_item st hm hu fun key h' hkey st' sb => ?_
    have I1 : Inv X pins σ H { s with heap := h' } := I.turned (t' := s.toks) (fun b ob hb e => (sb.2 b hb).trans e) f0 f1 f3 f4 f5
    obtain ⟨oi, e, c, dd⟩ := id st'
    refine ⟨key, rfl, go_of (s := { s with heap := h' }) e c dd (by decide) ⟨kV k, H, I1, relV_key (show keyIs k key = true from hkey), ⟨rfl, k, v, hkv, rfl⟩, ?_, fun b hb => (hf b hb).1⟩⟩
    show h'.IsKeyIter it d (i + 1) kvs.length _
    rw [hl]
    exact st'
  done := by
    intro X hP hw hK hc i pins s σ H E I hf st hg
    subst hP hw hK
    obtain ⟨hd, hi⟩ := hg
    obtain ⟨f0, f1, f2, f3, f4, f5⟩ := hf it (by simp)
    obtain ⟨hs, hgd, hx, es', ep', vs, hdt, hsz, kv, hm⟩ := I.frzK hd
    obtain ⟨rfl, rfl⟩ := dict_ep hod hdt
    exact next_key_end (I.ok.hd hc) st hgd hdt hsz hi fun h' eb => ⟨rfl, I.turned (t' := s.toks) (fun b ob hb e => eb b ob hb e) f0 f1 f3 f4 f5⟩
  self := fun A i s Q E st h => wpAny_pyIter_keyiter st h
theorem turn_keysT {kvs : List (List Key × V)} (it : Addr) (hod : o.data = .dict es ep) : Turn P w K tg (Itkt d o kvs) [it] it (fun i h => h.IsKeyIter it d i kvs.length ep) where
  mem := by simp
  obj := fun i h st b hb => by
    have e : b = it := by simpa using hb
    subst e
    obtain ⟨oi, e, c, dd⟩ := st
    exact ⟨oi, e, fun v z => by rw [dd] at z; cases z⟩
  keep := fun i h h' st k => st.at fun oi e => k it (by simp) oi e
  item := by
    intro X hP hw hK hc i pins s σ H E I hf st hg
    subst hP hw hK
    obtain ⟨hd, hi⟩ := hg
    obtain ⟨f0, f1, f2, f3, f4, f5⟩ := hf it (by simp)
    obtain ⟨hs, hgd, hx, es', ep', hdt, hsz, ent⟩ := I.frzT hd
    obtain ⟨rfl, rfl⟩ := dict_ep hod hdt
    obtain ⟨⟨k, v⟩, hkv⟩ : ∃ p, kvs[i]? = some p := ⟨kvs[i], List.getElem?_eq_getElem hi⟩
    obtain ⟨en, q, hen, hkey, hq⟩ := ent i k v hkv
    refine next_key_item st hgd hdt hsz hen fun h' st' sb => ?_
    have I1 : Inv X pins σ H { s with heap := h' } := I.turned (t' := s.toks) (fun b ob hb e => (sb.2 b hb).trans e) f0 f1 f3 f4 f5
    obtain ⟨oi, e, c, dd⟩ := id st'
    exact ⟨en.key, rfl, go_of (s := { s with heap := h' }) e c dd (by decide) ⟨.ref q, H, I1, hkey, ⟨rfl, k, v, q, hkv, rfl, hq⟩, st', fun b hb => (hf b hb).1⟩⟩
  done := by
    intro X hP hw hK hc i pins s σ H E I hf st hg
    subst hP hw hK
    obtain ⟨hd, hi⟩ := hg
    obtain ⟨f0, f1, f2, f3, f4, f5⟩ := hf it (by simp)
    obtain ⟨hs, hgd, hx, es', ep', hdt, hsz, ent⟩ := I.frzT hd
    obtain ⟨rfl, rfl⟩ := dict_ep hod hdt
    exact next_key_end (I.ok.hd hc) st hgd hdt hsz hi fun h' eb => ⟨rfl, I.turned (t' := s.toks) (fun b ob hb e => eb b ob hb e) f0 f1 f3 f4 f5⟩
  self := fun A i s Q E st h => by
    refine wpAny_pyIter_slot st.typeIs F.slot_dict_keyiterator_iter (wpAny_call_entry F.slot_dict_keyiterator_iter st.typeIs F.entry_dict_keyiterator_iter ?_ (F.args_dict_keyiterator_iter_1 _))
    show wpAny _ _ (ret (.ref it)) _ _ s
    exact wpAny_pure ⟨_, rfl, "dict_keyiterator", _, st.typeIs, F.slot_dict_keyiterator_next.lookup, h⟩
end

/-! ### for k in d, d.keys(), d.values(), d.items() -/
/-- the dict is locked (tLock, or by the caller) -/
def iKeys (td : TE) : TI := fun σ H R => td σ H fun x H1 => ∃ d o, x = .ref d ∧ ((∃ kvs, H1 d = some (.frz o (.dK kvs)) ∧ R (Itk d o kvs) H1) ∨ ∃ kvs, H1 d = some (.frz o (.dT kvs)) ∧ R (Itkt d o kvs) H1)
def iVals (td : TE) : TI := fun σ H R => td σ H fun x H1 => ∃ d o kvs, x = .ref d ∧ H1 d = some (.frz o (.dK kvs)) ∧ R (Itd d o kvs) H1
def iItems (td : TE) : TI := fun σ H R => td σ H fun x H1 => ∃ d o kvs, x = .ref d ∧ H1 d = some (.frz o (.dK kvs)) ∧ R (Iti d o kvs) H1
def iKeysM (td : TE) : TI := fun σ H R => td σ H fun x H1 => ∃ d o kvs, x = .ref d ∧ H1 d = some (.frz o (.dK kvs)) ∧ R (Itk d o kvs) H1
section
variable {X : Cx} {tg e : Expr} {td : TE} {apos cpos : Pos}
theorem pi_keys (he : PE X e td) : PI X tg e (iKeys td) := by
  intro pins s σ H R I h
  refine thn (he pins s σ H _ I h) fun u s1 ⟨x, H1, I1, rx, d, o, ex, q⟩ => ?_
  subst ex
  obtain rfl : u = Value.ref d := rx
  rcases q with ⟨kvs, hd, q⟩ | ⟨kvs, hd, q⟩
  · obtain ⟨hs, hgd, hx, es, ep, vs, hdt, hsz, kv, hm⟩ := I1.frzK hd
    refine iter_keys hs hgd hx hdt (pi_one (tk := s1.toks) I1 _ (turn_keys _ hdt) ⟨_, Heap.get?_push_size _ rfl, rfl, ?_⟩ q)
    rw [hsz] <;> rfl
  · obtain ⟨hs, hgd, hx, es, ep, hdt, hsz, ent⟩ := I1.frzT hd
    refine iter_keys hs hgd hx hdt (pi_one (tk := s1.toks) I1 _ (turn_keysT _ hdt) ⟨_, Heap.get?_push_size _ rfl, rfl, ?_⟩ q)
    rw [hsz] <;> rfl
end

/-! ### enumerate(list) -/
/-- the list at a as it stands at each turn, each item in a new pair -/
def Ite (K : PySem.W.Frag) (a : Addr) : It :=
  ⟨fun i H => ∃ (xs : List V) (x : V), SqL K H a xs ∧ xs[i]? = some x, fun i H v H' => ∃ T x, v = .ref T ∧ H T = none ∧ H' = upd H T (.tup [.int (i : Nat), x]) ∧ ∀ xs, SqL K H a xs → xs[i]? = some x, fun i H => ∃ xs : List V, SqL K H a xs ∧ xs.length ≤ i⟩
def iEnum (K : PySem.W.Frag) (ta : TA) : TI := fun σ H R => ta σ H fun vs H1 => ∃ a xs, vs = [.ref a] ∧ SqL K H1 a xs ∧ R (Ite K a) H1
/-! ### zip(list, list) -/
/-- the lists at a and b as they stand at each turn, the items in new pairs -/
def Itz (K : PySem.W.Frag) (a b : Addr) : It :=
  ⟨fun i H => ∃ (xs ys : List V) (x y : V), SqL K H a xs ∧ SqL K H b ys ∧ xs[i]? = some x ∧ ys[i]? = some y,
    fun i H v H' => ∃ T x y, v = .ref T ∧ H T = none ∧ H' = upd H T (.tup [x, y]) ∧ (∀ xs, SqL K H a xs → xs[i]? = some x) ∧ ∀ ys, SqL K H b ys → ys[i]? = some y,
    fun i H => ∃ xs ys : List V, SqL K H a xs ∧ SqL K H b ys ∧ (xs.length ≤ i ∨ ys.length ≤ i)⟩
def iZip (K : PySem.W.Frag) (ta : TA) : TI := fun σ H R => ta σ H fun vs H1 => ∃ a b xs ys, vs = [.ref a, .ref b] ∧ SqL K H1 a xs ∧ SqL K H1 b ys ∧ R (Itz K a b) H1
end L2

section 
namespace Bits
open PySem PyProof.Rows

end Bits
end 

section 
namespace TL
open PySem PySem.Builtin PySem.Builtin.Str PySem.StrLaws

abbrev tl (x : Str) : List Nat := x.cps.toList
/-! ### the list functions -/
/-- S stands at the head of l -/
def pre (S l : List Nat) : Bool := l.take S.length == S
/-- l cut at each S from the left; k signs are still to be passed over -/
def spl (S : List Nat) : Nat → List Nat → List Nat → List (List Nat)
  | _, acc, [] => [acc]
  | 0, acc, c :: r => if pre S (c :: r) = true then acc :: spl S (S.length - 1) [] r else spl S 0 (acc ++ [c]) r
  | k + 1, acc, _ :: r => spl S k acc r
/-- what stands before the first S, and behind it -/
def par (S : List Nat) : List Nat → List Nat → Option (List Nat × List Nat)
  | _, [] => none
  | acc, c :: r => if pre S (c :: r) = true then some (acc, (c :: r).drop S.length) else par S (acc ++ [c]) r

/-! ### the model's split and partition are these -/
/-! ### computing spl and par -/
/-- joined lists -/
def joinL (S : List Nat) : List (List Nat) → List Nat
  | [] => []
  | [p] => p
  | p :: q :: r => p ++ (S ++ joinL S (q :: r))
/-! ### digits -/
/-- the signs of a number -/
def numL (n : Nat) : List Nat := (Nat.toDigits 10 n).map Char.toNat
/-! ### words: x.split() -/
def wstep (st : List (List Nat) × List Nat) (c : Nat) : List (List Nat) × List Nat :=
  if Unicode.isSpace c = true then (if st.2 = [] then st else (st.1 ++ [st.2], [])) else (st.1, st.2 ++ [c])
def wfin (st : List (List Nat) × List Nat) : List (List Nat) := if st.2 = [] then st.1 else st.1 ++ [st.2]
end TL
end 

namespace L2
open PySem PySem.Spec PyProof.Rows

/-- a new list of texts, tracked -/
def rNewStrs (ys : List Str) : Hp → VK → Prop := fun H Q => ∀ p, H p = none → Q (.ref p) (upd H p (.lst (ys.map V.str)))

section
variable {X : Cx} {pins : List (Addr × Obj)} {σ : St} {H : Hp} {s : Shared} {Q : VK}
end

section
variable {X : Cx}

/-! ### of a text alone -/
/-! ### of a text and a text -/
end

section
variable {X : Cx} {o e : Expr} {to te : TE}
def tM0 (r : V → List V → Hp → VK → Prop) (to : TE) : TE := fun σ H Q => to σ H fun x H1 => (∃ a, x = .str a) ∧ r x [] H1 Q
def tM1 (r : V → List V → Hp → VK → Prop) (to te : TE) : TE := fun σ H Q => to σ H fun x H1 => (∃ a, x = .str a) ∧ te σ H1 fun y H2 => r x [y] H2 Q
end
end L2

namespace L2
open PySem PySem.Spec PyProof.Rows

section
variable {X : Cx}
end

/-! ### slices of a text -/
/-- a part, clipped, as the text's slice reckons it -/
def clipS (n d : Nat) : Option Int → Int
  | none => (d : Int)
  | some i => max 0 (min (if i < 0 then i + (n : Int) else i) (n : Int))
/-- z[lo:hi] -/
def cutS (z : Str) (lo hi : Option Int) : Str :=
  ⟨((z.cps.toList.drop (HT.sIx z.length 0 lo)).take (HT.sIx z.length z.length hi - HT.sIx z.length 0 lo)).toArray⟩
def rSlS : V → Option Int → Option Int → Hp → VK → Prop := fun x lo hi H Q => ∃ z, x = .str z ∧ z.length ≤ sizeLine ∧ Q (.str (cutS z lo hi)) H
end L2

namespace Att
open PySem PySem.W PySem.Calls PyProof.Rows

/-! ### the script -/
/-! ### the attachment: holds_open's last premise (the goal 'hc' behind k_head) from a wpAny of the law's body -/
/-! ### rules over ANY heap (no ledger) from facts about the written part K: the library's own take a ledger (News) for what they write -/
section
variable {prog : Program} {w : World} {A : Around} {E : Value → Shared → Prop} {s : Shared} {K : Frag}

/-! the whole heap as the ledger: makes every rule that writes through a ledger a rule over any heap -/
def noObjs (h : Heap) : Heap := { h with objs := #[] }
def ledger (h : Heap) (L d : Addr) : List (Addr × Obj) := (List.range h.objs.size).filterMap fun a => if a = L ∨ a = d then none else (h.get? a).map fun o => (a, o)
end
end Att

namespace L2
open PySem PySem.Spec PyProof.Rows

/-- nothing is tracked but the script, known to the object (or it is an object of the module) -/
def Only (H : Hp) : Prop := ∀ b, H b = none ∨ ∃ o xs, H b = some (.frz o (.lst xs))

end L2

namespace L2
open PySem PySem.Spec PyProof.Rows

abbrev KOf {K : PySem.W.Frag} {h : Heap} (_ : K.In h) : PySem.W.Frag := K

end L2

/- THE LAST THEOREM (shape; LID, My.* are yours):
   My.Adr: a structure of the addresses that your layer names (classes, functions); My.Txt K t: a structure (Prop) of the equations over K;
   My.txt_mk : {K} {implicit addresses ..} (e1 : nsIn K mainGlobals "law" = some (some (.ref f))) (e2 : K.lookup f = some ⟨oc, od, .func (fnOf "law" "law" params body scope dV kV doc pm an cdv ct), sl⟩) (e3 : codeIn K cdv "law" = true) .. : ∃ t, My.Txt K t

set_option maxRecDepth 100000 in
set_option maxHeartbeats 0 in
theorem PySem.Challenge.cw_LID_holds : PySem.Challenge.rw_LID.Holds := by
  w_on; o_law; k_head; (case hw => w_witness2)
  k_fill
  refine L2.walk_of (l := PySem.Challenge.rw_LID) (n := 63) (k := 40) (x := "script") (CX := fun w => ..) (sp := fun _ => My.sp_law) rfl (by decide) rfl ⟨rfl, by decide, by decide⟩ (fun w h Y => PySem.W.kIn_of Y) ?F ?S ?C
  case F =>
    intro w mg fa h KX G hmg
    have T : ∃ t, My.Txt (L2.KOf KX) t := by
      dsimp only [L2.KOf]                          -- K must stand as «<heap const> w.params» for k_is
      refine' My.txt_mk ?e1 ?e2 ?e3 ..
      (case e1 => PySem.W.k_is)                    -- in the order: a name -> its address -> its object -> its parts
      (case e2 => PySem.W.k_is)
      ..
    obtain ⟨t, T⟩ := T
    have e0 := hmg.symm.trans (PySem.W.mg_of KX G T.law)
    cases e0                                       -- fa is the law's own address
    exact ⟨_, fun s u => .of_eq rfl, fun base kb nb => My.law_fn T kb nb⟩     -- if «.of_eq rfl» comes too early: refine' ⟨_, ?b, fun base kb nb => My.law_fn T kb nb⟩; exact fun s u => .of_eq rfl
  case S => exact fun w H a ns hl hO hS => ..
  case C => exact ..
(the tactic k_is has no namespace: write k_is) -/

/-! SHORT WORDS over the layer: a def of the text, its body, what a loop and a test want. -/
namespace L2
open PySem PySem.Spec PyProof.Rows

/-! ### the text by places -/
/-- the j-th statement of a class's body -/
def inClass (s : Stmt) (j : Nat) : Stmt := match s with
  | .ClassDef _ _ _ body _ _ _ _ _ _ _ => body.getD j (.Pass ⟨0, 0, 0, 0⟩)
  | _ => .Pass ⟨0, 0, 0, 0⟩
def defArgs (s : Stmt) : Arguments := match s with
  | .FunctionDef _ a _ _ _ _ _ _ _ _ => a
  | _ => { posonlyargs := [], args := [], vararg := none, kwonlyargs := [], kw_defaults := [], kwarg := none, defaults := [] }
def defBody (s : Stmt) : List Stmt := match s with
  | .FunctionDef _ _ b _ _ _ _ _ _ _ => b
  | _ => []
def defScope (s : Stmt) : Scope := match s with
  | .FunctionDef _ _ _ _ _ _ sc _ _ _ => sc
  | _ => { kind := .function, names := [], isGenerator := false, isCoroutine := false }

/-! ### no exception leaves a def -/
abbrev CX0 : CXT := fun _ _ _ _ _ _ => False
abbrev E0 : XK := fun _ _ _ => False
theorem pass0 {X : Cx} : Passes CX0 X E0 := fun _ _ _ _ _ _ _ h => h.elim

/-! ### a def (or method) of the text as it stands behind the top -/
structure Fun (K : PySem.W.Frag) (x qual : Str) (st : Stmt) (f : Addr) (fd : FuncData) : Prop where
  ex : ∃ (oc : Value) (od : Option Addr) (kV doc pm : Value) (an : Option Addr) (cdv ct : Value) (osl : Array (Option Value)),
    fd = PySem.W.fnOf x qual (defArgs st) (defBody st) (defScope st) .none kV doc pm an cdv ct ∧ K.lookup f = some ⟨oc, od, .func fd, osl⟩ ∧ PySem.W.codeIn K cdv qual = true
  kp : PySem.W.keepIn K (.ref f) = true
section
variable {P : Program} {w : World} {K : PySem.W.Frag} {mg : Str → Option Value} {base : Heap}
/-- THE RULE for a def: its body as a term of rules, and the reading of that term -/
theorem Fun.ok {x qual : Str} {st : Stmt} {f : Addr} {fd : FuncData} {N ps : List Str} {k : Nat} {sp : Sp} (F : Fun K x qual st f fd) (S : FnScope N ps (defScope st)) (len : ∀ vs H Q E, sp vs H Q E → vs.length = ps.length)
    (hbody : ∀ (cdv : Value) (A : Around) (outer : List Env) (s : Shared) (H : Hp) (vs : List V) (Q : VK) (E : XK), Room k (A.deeper (envOfC qual (defScope st) s.heap.objs.size f cdv)) → sp vs H Q E →
      ∃ t, PSs (cxOf CX0 P w K mg base N qual (defScope st) f cdv A outer s H E).nox (defBody st) t ∧ t { nx := fun _ H' => Q .non H', rt := Q } (start N vs) H) : FnOk P w K mg base CX0 (k + 1) f fd ps sp := by
  obtain ⟨oc, od, kV, doc, pm, an, cdv, ct, osl, rfl, lk, hcd⟩ := F.ex
  refine fn_of lk hcd S len fun A outer s H vs Q E hr hsp => ?_
  obtain ⟨t, h, q⟩ := hbody cdv A outer s H vs Q E hr hsp
  exact ⟨t, h.nox, q⟩
/-- how its arguments bind (no defaults): h is «fun _ _ _ _ _ _ us hl => match us, hl with | [_, _], _ => rfl», one _ a parameter -/
theorem Fun.binds {x qual : Str} {st : Stmt} {f : Addr} {fd : FuncData} {ps : List Str} (F : Fun K x qual st f fd)
    (h : ∀ (kV doc pm : Value) (an : Option Addr) (cdv ct : Value) (us : List Value), us.length = ps.length → bindArgs (PySem.W.fnOf x qual (defArgs st) (defBody st) (defScope st) .none kV doc pm an cdv ct) ⟨us, []⟩ = pure (ps.zip us)) : Binds K fd ps [] := by
  obtain ⟨oc, od, kV, doc, pm, an, cdv, ct, osl, rfl, lk, hcd⟩ := F.ex
  exact .all (h kV doc pm an cdv ct)
theorem fun_mk {x qual : Str} {st : Stmt} {f : Addr} {oc : Value} {od an : Option Addr} {osl : Array (Option Value)} {kV doc pm cdv ct : Value} (l : K.lookup f = some ⟨oc, od, .func (PySem.W.fnOf x qual (defArgs st) (defBody st) (defScope st) .none kV doc pm an cdv ct), osl⟩)
    (c : PySem.W.codeIn K cdv qual = true) (k : PySem.W.keepIn K (.ref f) = true) : Fun K x qual st f (PySem.W.fnOf x qual (defArgs st) (defBody st) (defScope st) .none kV doc pm an cdv ct) := ⟨⟨oc, od, kV, doc, pm, an, cdv, ct, osl, rfl, l, c⟩, k⟩
end
theorem hu_of {A : Around} {k : Nat} (hr : Room k A) : A.units + 1 < cLine := Nat.lt_of_le_of_lt (Nat.add_le_add_left (by decide : 1 ≤ 64) _) hr.units
theorem small1000 {n : Nat} (h : n ≤ 1000) : n < sizeLine := Nat.lt_of_le_of_lt h (by decide)

/-! ### expressions in short: the name that stands in the i-th slot -/
section
variable {X : Cx}
theorem pv (i : Nat) {x : Str} {pos : Pos} (hN : X.N[i]? = some x := by rfl) (hv : Vis X.env.scope x := by first | exact Or.inl rfl | exact Or.inr (Or.inl rfl) | exact Or.inr (Or.inr rfl)) (hd : (x == ("__debug__" : Str)) = false := by decide)
    (hcd : (x == ("__classdict__" : Str)) = false := by decide) : PE X (.Name x pos) (tVar i) := pe_var hN hv hd hcd
end

/-! ### tests -/
theorem iteF {A B : Prop} (h : B) : if false = true then A else B := by
  rw [if_neg Bool.false_ne_true]
  exact h
theorem iteT {A B : Prop} (h : A) : if true = true then A else B := by
  rw [if_pos rfl]
  exact h
theorem ite2 {c A B : Prop} [Decidable c] (h1 : c → A) (h2 : ¬ c → B) : if c then A else B := by
  by_cases h : c
  · rw [if_pos h]
    exact h1 h
  · rw [if_neg h]
    exact h2 h
/-! ### heaps -/
/-- all that was tracked is as it was -/
def Same (H H' : Hp) : Prop := ∀ b o, H b = some o → H' b = some o
theorem Same.refl (H : Hp) : Same H H := fun _ _ h => h
theorem Same.trans {H H1 H2 : Hp} (a : Same H H1) (b : Same H1 H2) : Same H H2 := fun c o h => b c o (a c o h)
theorem Same.free {H H' : Hp} (e : Same H H') {l : Addr} (h : H' l = Option.none) : H l = Option.none := by
  cases q : H l with
  | none => rfl
  | some o =>
    rw [e l o q] at h
    cases h
theorem Same.seq {K : PySem.W.Frag} {H H' : Hp} {a : Addr} {xs : List V} (e : Same H H') (h : SqL K H a xs) : SqL K H' a xs := by
  rcases h with (h | ⟨o, h⟩) | h
  · exact .inl (.inl (e _ _ h))
  · exact .inl (.inr ⟨o, e _ _ h⟩)
  · exact .inr h

/-! ### a dict's pairs: keys that differ -/
section
variable {κ : Type} [DecidableEq κ]
end
/-! ### lists -/
theorem nd_ix {α : Type} {l : List α} (hN : l.Nodup) {i j : Nat} {x : α} (a : l[i]? = some x) (b : l[j]? = some x) : i = j := by
  obtain ⟨h1, e1⟩ := List.getElem?_eq_some_iff.mp a
  obtain ⟨h2, e2⟩ := List.getElem?_eq_some_iff.mp b
  exact (List.getElem_inj hN).mp (e1.trans e2.symm)
/-- a new instance and its __init__ leave all that was tracked as it was -/
theorem Same.made {H H1 : Hp} {x dx C : Addr} (nx : H x = Option.none) (nd : H dx = Option.none) (k : ∀ b o, (upd (upd H dx (.own x)) x (.ins C dx [])) b = some o → b ≠ x → H1 b = some o) : Same H H1 := fun b o e =>
  k b o (by rw [upd_ne (ne_of_none e nx), upd_ne (ne_of_none e nd)]; exact e) (ne_of_none e nx)
end L2


section
set_option Elab.async false
set_option linter.all false
set_option maxRecDepth 100000
set_option maxHeartbeats 2000000
namespace L2
open PySem PySem.Spec PyProof.Rows
open PySem.W (WData Codec OpenSpec Well WellAll ReadsW ReadsAllW)
/-! ### an answer as data -/
mutual
/-- x stands for the datum d, lists and tuples all the way -/
inductive Dw (K : PySem.W.Frag) (H : Hp) : V → WData → Prop
  | non : Dw K H .non .none
  | bl (b : Bool) : Dw K H (.bl b) (.bool b)
  | int (i : Int) : Dw K H (.int i) (.int i)
  | str (x : Str) : Dw K H (.str x) (.str x)
  | byt (b : Array UInt8) : Dw K H (.byt b) (.bytes b.toList)
  | lst {a : Addr} {xs : List V} {ds : List WData} : SqL K H a xs → DwAll K H xs ds → Dw K H (.ref a) (.list ds)
  | tup {a : Addr} {xs : List V} {ds : List WData} : SqT K H a xs → DwAll K H xs ds → Dw K H (.ref a) (.tuple ds)
inductive DwAll (K : PySem.W.Frag) (H : Hp) : List V → List WData → Prop
  | nil : DwAll K H [] []
  | cons {v : V} {vs : List V} {d : WData} {ds : List WData} : Dw K H v d → DwAll K H vs ds → DwAll K H (v :: vs) (d :: ds)
end
theorem dw_ints {K : PySem.W.Frag} {H : Hp} : ∀ ns : List Int, DwAll K H (ns.map V.int) (ns.map WData.int)
  | [] => .nil
  | n :: r => .cons (.int n) (dw_ints r)
theorem ints_dw {K : PySem.W.Frag} {H : Hp} : ∀ (ns : List Int) (xs : List V), DwAll K H xs (ns.map WData.int) → xs = ns.map V.int
  | [], xs, h => by
    cases h
    rfl
  | n :: r, xs, h => by
    cases h with
    | cons h1 h2 =>
      cases h1
      rw [ints_dw r _ h2] <;> rfl
section
variable {P : Program} {w : World} {K : PySem.W.Frag} {H : Hp} {h : Heap} {R : PySem.W.WRecords} {cl : Str → Option Addr}
theorem sqL_at {a : Addr} {xs : List V} (hok : HOk P w H h) (KX : K.In h) (q : SqL K H a xs) : ∃ (its : List Value) (o : Obj) (n : Nat), Vals xs its ∧ h.get? a = some o ∧ o.cls = .type "list" ∧ o.data = .seq its.toArray n := by
  rcases q with q | ⟨o, its, n, e, hc, _, hd, _, hv⟩
  · obtain ⟨_, its, n, hv, e⟩ := (show ObjOk P w H h a (.lst xs) from q.ok hok)
    exact ⟨its, _, n, hv, e, rfl, rfl⟩
  · exact ⟨its.toList, o, n, hv, KX _ _ e, hc, by simp [hd]⟩
theorem sqT_at {a : Addr} {xs : List V} (hok : HOk P w H h) (KX : K.In h) (q : SqT K H a xs) : ∃ (its : List Value) (o : Obj) (n : Nat), Vals xs its ∧ h.get? a = some o ∧ o.cls = .type "tuple" ∧ o.data = .seq its.toArray n := by
  rcases q with q | ⟨o, its, n, e, hc, hd, _, hv⟩
  · obtain ⟨_, its, hv, o, e, hc, n, hd⟩ := (show ObjOk P w H h a (.tup xs) from q.ok hok)
    exact ⟨its, o, n, hv, e, hc, hd⟩
  · exact ⟨its.toList, o, n, hv, KX _ _ e, hc, by simp [hd]⟩
mutual
theorem Dw.reads (hok : HOk P w H h) (KX : K.In h) : ∀ (d : WData) (v : V) (u : Value), Dw K H v d → RelV v u → ∃ as, ReadsW R cl h u d as
  | .none, _, _, x, r => by
    cases x
    cases r
    exact ⟨_, ReadsW.none⟩
  | .bool b, _, _, x, r => by
    cases x
    cases r
    exact ⟨_, ReadsW.bool b⟩
  | .int i, _, _, x, r => by
    cases x
    obtain ⟨t, rfl⟩ := r
    exact ⟨_, ReadsW.int i t⟩
  | .str s, _, _, x, r => by
    cases x
    obtain ⟨t, rfl⟩ := r
    exact ⟨_, ReadsW.str s t⟩
  | .bytes b, _, _, x, r => by
    cases x
    obtain ⟨t, rfl⟩ := r
    exact ⟨_, ReadsW.bytes _ t⟩
  | .list ds, _, _, x, r => by
    cases x with
    | lst hs ha =>
      cases r
      obtain ⟨its, o, n, rv, ho, hc, hd⟩ := sqL_at hok KX hs
      obtain ⟨as, hr⟩ := Dw.readsAll hok KX ds _ its ha rv
      exact ⟨_, ReadsW.list ho hc hd hr⟩
  | .tuple ds, _, _, x, r => by
    cases x with
    | tup hs ha =>
      cases r
      obtain ⟨its, o, n, rv, ho, hc, hd⟩ := sqT_at hok KX hs
      obtain ⟨as, hr⟩ := Dw.readsAll hok KX ds _ its ha rv
      exact ⟨_, ReadsW.tuple ho hc hd hr⟩
  | .float _, _, _, x, _ => by cases x
  | .dict _, _, _, x, _ => by cases x
  | .bytearray _, _, _, x, _ => by cases x
  | .set _, _, _, x, _ => by cases x
  | .frozenset _, _, _, x, _ => by cases x
  | .obj _ _, _, _, x, _ => by cases x
theorem Dw.readsAll (hok : HOk P w H h) (KX : K.In h) : ∀ (ds : List WData) (vs : List V) (us : List Value), DwAll K H vs ds → Vals vs us → ∃ as, ReadsAllW R cl h us ds as
  | [], _, _, x, r => by
    cases x
    cases r
    exact ⟨_, ReadsAllW.nil⟩
  | d :: ds, _, _, x, r => by
    cases x with
    | cons h1 h2 =>
      cases r with
      | cons r1 r2 =>
        obtain ⟨as, q1⟩ := Dw.reads hok KX d _ _ h1 r1
        obtain ⟨bs, q2⟩ := Dw.readsAll hok KX ds _ _ h2 r2
        exact ⟨_, ReadsAllW.cons q1 q2⟩
end
end
/-! ### the arguments -/
mutual
/-- data that a codec tells -/
def plW : WData → Bool
  | .none => true
  | .bool _ => true
  | .int _ => true
  | .str _ => true
  | .bytes _ => true
  | .list xs => plWs xs
  | .tuple xs => plWs xs
  | _ => false
def plWs : List WData → Bool
  | [] => true
  | x :: r => plW x && plWs r
end
theorem plWs_map {α : Type} {f : α → WData} (h : ∀ a, plW (f a) = true) : ∀ l : List α, plWs (l.map f) = true
  | [] => rfl
  | x :: r => by
    show (plW (f x) && plWs (r.map f)) = true
    rw [h x, plWs_map h r] <;> rfl
theorem pl_enc : ∀ (c : Codec) (a : c.denote), plW (c.enc a) = true
  | .unit, _ => rfl
  | .bool, _ => rfl
  | .int _ _, _ => rfl
  | .nat _ _, _ => rfl
  | .u8, _ => rfl
  | .bytes _ _, _ => rfl
  | .text _ _ _ _, _ => rfl
  | .list _ _ c, a => plWs_map (fun x => pl_enc c x) a
  | .pair c d, a => by
    show (plW (c.enc a.1) && (plW (d.enc a.2) && true)) = true
    rw [pl_enc c a.1, pl_enc d a.2] <;> rfl
  | .triple c d e, a => by
    show (plW (c.enc a.1) && (plW (d.enc a.2.1) && (plW (e.enc a.2.2) && true))) = true
    rw [pl_enc c a.1, pl_enc d a.2.1, pl_enc e a.2.2] <;> rfl
  | .option c, none => rfl
  | .option c, some x => pl_enc c x
theorem pl_encAll : ∀ (cs : List Codec) (a : Codec.denoteAll cs), plWs (Codec.encAll cs a) = true
  | [], _ => rfl
  | c :: cs, a => by
    show (plW (c.enc a.1) && plWs (Codec.encAll cs a.2)) = true
    rw [pl_enc c a.1, pl_encAll cs a.2] <;> rfl
theorem weight_mem : ∀ {xs : List WData} {d : WData}, d ∈ xs → d.weight ≤ WData.weightAll xs
  | [], d, h => absurd h (by simp)
  | x :: r, d, h => by
    show d.weight ≤ x.weight + 1 + WData.weightAll r
    rcases List.mem_cons.mp h with e | m
    · rw [e]
      omega
    · have z := weight_mem m
      omega
def toV : Value → V
  | .none => .non
  | .bool b => .bl b
  | .int i _ => .int i
  | .str x _ => .str x
  | .bytes b _ => .byt b
  | .ref a => .ref a
  | _ => .non
/-- a value of the arguments, its objects among A -/
def OkU (A : List Addr) : Value → Prop
  | .none => True
  | .bool _ => True
  | .int _ _ => True
  | .str _ _ => True
  | .bytes _ _ => True
  | .ref a => a ∈ A
  | _ => False
theorem OkU.mono {A B : List Addr} (h : ∀ a ∈ A, a ∈ B) : ∀ {u : Value}, OkU A u → OkU B u := fun {u} x => by
  cases u with
  | ref a => exact h a x
  | none => trivial
  | bool b => trivial
  | int i t => trivial
  | str s t => trivial
  | bytes b t => trivial
  | _ => exact False.elim x
theorem relV_toV {A : List Addr} {u : Value} (x : OkU A u) : RelV (toV u) u := by
  cases u with
  | ref a => rfl
  | none => rfl
  | bool b => rfl
  | int i t => exact ⟨t, rfl⟩
  | str s t => exact ⟨t, rfl⟩
  | bytes b t => exact ⟨t, rfl⟩
  | _ => exact False.elim x
theorem vals_toV {A : List Addr} : ∀ {vs : List Value}, (∀ u ∈ vs, OkU A u) → Vals (vs.map toV) vs
  | [], _ => .nil
  | u :: r, h => .cons (relV_toV (h u (List.mem_cons_self ..))) (vals_toV fun x hx => h x (List.mem_cons_of_mem _ hx))
/-- an object of the arguments -/
def ArgOb (h : Heap) (A : List Addr) (a : Addr) : Prop := ∃ vs : List Value, vs.length ≤ sizeLine ∧ (∀ u ∈ vs, OkU A u) ∧
  (h.get? a = some { cls := .type "list", data := .seq vs.toArray } ∨ h.get? a = some { cls := .type "tuple", data := .seq vs.toArray })
theorem ArgOb.mono {h : Heap} {A B : List Addr} {a : Addr} (k : ∀ a ∈ A, a ∈ B) (x : ArgOb h A a) : ArgOb h B a := by
  obtain ⟨vs, h1, h2, h3⟩ := x
  exact ⟨vs, h1, fun u hu => (h2 u hu).mono k, h3⟩
theorem wellAll_len {P : Params} {h : Heap} : ∀ {vs : List Value} {ds : List WData}, WellAll P h vs ds → vs.length = ds.length
  | _, _, .nil => rfl
  | _, _, .cons _ b => by
    show _ + 1 = _ + 1
    rw [wellAll_len b]
theorem well_list {P : Params} {h : Heap} {v : Value} {ds : List WData} (x : Well P h v (.list ds)) : ∃ (a : Addr) (vs : List Value), v = .ref a ∧ h.get? a = some { cls := .type "list", data := .seq vs.toArray } ∧ WellAll P h vs ds := by
  cases x with
  | list ho hall => exact ⟨_, _, rfl, ho, hall⟩
theorem well_tuple {P : Params} {h : Heap} {v : Value} {ds : List WData} (x : Well P h v (.tuple ds)) : ∃ (a : Addr) (vs : List Value), v = .ref a ∧ h.get? a = some { cls := .type "tuple", data := .seq vs.toArray } ∧ WellAll P h vs ds := by
  cases x with
  | tuple ho hall => exact ⟨_, _, rfl, ho, hall⟩
theorem well_cons {P : Params} {h : Heap} {us : List Value} {d : WData} {ds : List WData} (x : WellAll P h us (d :: ds)) : ∃ (v : Value) (vs : List Value), us = v :: vs ∧ Well P h v d ∧ WellAll P h vs ds := by
  cases x with
  | cons a b => exact ⟨_, _, rfl, a, b⟩
theorem line_of {n : Nat} (h : n ≤ 1048576) : n ≤ sizeLine := Nat.le_trans h (by decide)
section
variable {P : Params} {h : Heap}
mutual
theorem area_one : ∀ (d : WData) (v : Value), Well P h v d → plW d = true → d.weight ≤ 1048576 → ∃ A : List Addr, OkU A v ∧ ∀ a ∈ A, ArgOb h A a
  | .none, _, x, _, _ => by
    cases x
    exact ⟨[], trivial, fun a m => absurd m (by simp)⟩
  | .bool b, _, x, _, _ => by
    cases x
    exact ⟨[], trivial, fun a m => absurd m (by simp)⟩
  | .int i, _, x, _, _ => by
    cases x
    exact ⟨[], trivial, fun a m => absurd m (by simp)⟩
  | .str s, _, x, _, _ => by
    cases x
    exact ⟨[], trivial, fun a m => absurd m (by simp)⟩
  | .bytes b, _, x, _, _ => by
    cases x
    exact ⟨[], trivial, fun a m => absurd m (by simp)⟩
  | .list ds, _, x, p, z => by
    obtain ⟨a, vs, rfl, ho, hall⟩ := well_list x
    have z2 : WData.weightAll ds ≤ 1048576 := z
    obtain ⟨A, h1, h2⟩ := area_all ds _ hall p fun d hd => Nat.le_trans (weight_mem hd) z2
    have k : ∀ b ∈ A, b ∈ a :: A := fun b hb => List.mem_cons_of_mem _ hb
    refine ⟨a :: A, List.mem_cons_self .., fun b hb => ?_⟩
    rcases List.mem_cons.mp hb with e | m
    · rw [e]
      exact ⟨vs, line_of (by rw [wellAll_len hall]; exact Nat.le_trans (PySem.W.length_le_weightAllW ds) z2), fun u hu => (h1 u hu).mono k, .inl ho⟩
    · exact (h2 b m).mono k
  | .tuple ds, _, x, p, z => by
    obtain ⟨a, vs, rfl, ho, hall⟩ := well_tuple x
    have z2 : WData.weightAll ds ≤ 1048576 := z
    obtain ⟨A, h1, h2⟩ := area_all ds _ hall p fun d hd => Nat.le_trans (weight_mem hd) z2
    have k : ∀ b ∈ A, b ∈ a :: A := fun b hb => List.mem_cons_of_mem _ hb
    refine ⟨a :: A, List.mem_cons_self .., fun b hb => ?_⟩
    rcases List.mem_cons.mp hb with e | m
    · rw [e]
      exact ⟨vs, line_of (by rw [wellAll_len hall]; exact Nat.le_trans (PySem.W.length_le_weightAllW ds) z2), fun u hu => (h1 u hu).mono k, .inr ho⟩
    · exact (h2 b m).mono k
  | .float _, _, _, p, _ => Bool.noConfusion (show false = true from p)
  | .dict _, _, _, p, _ => Bool.noConfusion (show false = true from p)
  | .bytearray _, _, _, p, _ => Bool.noConfusion (show false = true from p)
  | .set _, _, _, p, _ => Bool.noConfusion (show false = true from p)
  | .frozenset _, _, _, p, _ => Bool.noConfusion (show false = true from p)
  | .obj _ _, _, _, p, _ => Bool.noConfusion (show false = true from p)
theorem area_all : ∀ (ds : List WData) (vs : List Value), WellAll P h vs ds → plWs ds = true → (∀ d ∈ ds, d.weight ≤ 1048576) → ∃ A : List Addr, (∀ u ∈ vs, OkU A u) ∧ ∀ a ∈ A, ArgOb h A a
  | [], _, x, _, _ => by
    cases x
    exact ⟨[], fun u m => absurd m (by simp), fun a m => absurd m (by simp)⟩
  | d :: ds, _, x, p, z => by
    obtain ⟨v, vs, rfl, x1, x2⟩ := well_cons x
    have q : plW d = true ∧ plWs ds = true := Bool.and_eq_true_iff.mp p
    obtain ⟨A, a1, a2⟩ := area_one d v x1 q.1 (z d (List.mem_cons_self ..))
    obtain ⟨B, b1, b2⟩ := area_all ds vs x2 q.2 fun e he => z e (List.mem_cons_of_mem _ he)
    have kA : ∀ b ∈ A, b ∈ A ++ B := fun b hb => List.mem_append.mpr (.inl hb)
    have kB : ∀ b ∈ B, b ∈ A ++ B := fun b hb => List.mem_append.mpr (.inr hb)
    refine ⟨A ++ B, fun u hu => ?_, fun b hb => ?_⟩
    · rcases List.mem_cons.mp hu with e | m
      · rw [e]
        exact a1.mono kA
      · exact (b1 u m).mono kB
    · rcases List.mem_append.mp hb with m | m
      · exact (a2 b m).mono kA
      · exact (b2 b m).mono kB
end
end
/-- what is tracked of an argument's object -/
def hoOf (o : Obj) : Option HO := match o.data with
  | .seq vs _ => if (o.cls == Value.type "list") = true then some (.frz o (.lst (vs.toList.map toV))) else some (.frz o (.tup (vs.toList.map toV)))
  | _ => none
def argH (K : PySem.W.Frag) (h : Heap) (A : List Addr) : Hp := fun b => if b ∈ A then (if (K.lookup b).isNone = true then (h.get? b).bind hoOf else none) else none
/-- nothing is tracked but what is known to the object -/
def OnlyF (H : Hp) : Prop := ∀ b, H b = none ∨ ∃ o u, H b = some (.frz o u)
theorem hoOf_lst (vs : List Value) : hoOf { cls := .type "list", data := .seq vs.toArray } = some (.frz { cls := .type "list", data := .seq vs.toArray } (.lst (vs.map toV))) := by
  show (if (Value.type "list" == Value.type "list") = true then some (HO.frz { cls := .type "list", data := .seq vs.toArray } (.lst (vs.toArray.toList.map toV))) else some (HO.frz { cls := .type "list", data := .seq vs.toArray } (.tup (vs.toArray.toList.map toV)))) = _
  rw [if_pos (beq_self_eq_true _)]
theorem hoOf_tup (vs : List Value) : hoOf { cls := .type "tuple", data := .seq vs.toArray } = some (.frz { cls := .type "tuple", data := .seq vs.toArray } (.tup (vs.map toV))) := by
  show (if (Value.type "tuple" == Value.type "list") = true then some (HO.frz { cls := .type "tuple", data := .seq vs.toArray } (.lst (vs.toArray.toList.map toV))) else some (HO.frz { cls := .type "tuple", data := .seq vs.toArray } (.tup (vs.toArray.toList.map toV)))) = _
  rw [if_neg (by decide)]
section
variable {P : Program} {w : World} {K : PySem.W.Frag} {h : Heap} {A : List Addr}
theorem argH_at {b : Addr} {o : Obj} (hb : b ∈ A) (hk : K.lookup b = none) (e : h.get? b = some o) : argH K h A b = hoOf o := by
  unfold argH
  rw [if_pos hb, hk, if_pos (show (none : Option Obj).isNone = true from rfl), e] <;> rfl
theorem of_argH {b : Addr} {u : HO} (q : argH K h A b = some u) : b ∈ A ∧ K.lookup b = none := by
  unfold argH at q
  by_cases hb : b ∈ A
  · rw [if_pos hb] at q
    cases hk : K.lookup b with
    | none => exact ⟨hb, rfl⟩
    | some o =>
      rw [hk, if_neg (by simp)] at q
      cases q
  · rw [if_neg hb] at q
    cases q
/-- what stands tracked -/
theorem argH_is (ar : ∀ a ∈ A, ArgOb h A a) {b : Addr} {u : HO} (q : argH K h A b = some u) : K.lookup b = none ∧ ∃ vs : List Value, vs.length ≤ sizeLine ∧ (∀ u ∈ vs, OkU A u) ∧
    ((h.get? b = some { cls := .type "list", data := .seq vs.toArray } ∧ u = .frz { cls := .type "list", data := .seq vs.toArray } (.lst (vs.map toV))) ∨
     (h.get? b = some { cls := .type "tuple", data := .seq vs.toArray } ∧ u = .frz { cls := .type "tuple", data := .seq vs.toArray } (.tup (vs.map toV)))) := by
  obtain ⟨hb, hk⟩ := of_argH q
  obtain ⟨vs, h1, h2, h3⟩ := ar b hb
  refine ⟨hk, vs, h1, h2, ?_⟩
  rcases h3 with e | e
  · rw [argH_at hb hk e, hoOf_lst] at q
    exact .inl ⟨e, (Option.some.inj q).symm⟩
  · rw [argH_at hb hk e, hoOf_tup] at q
    exact .inr ⟨e, (Option.some.inj q).symm⟩
theorem argH_only (ar : ∀ a ∈ A, ArgOb h A a) : OnlyF (argH K h A) := fun b => by
  cases q : argH K h A b with
  | none => exact .inl rfl
  | some u =>
    obtain ⟨_, vs, _, _, ⟨_, e⟩ | ⟨_, e⟩⟩ := argH_is ar q
    · exact .inr ⟨_, _, by rw [e]⟩
    · exact .inr ⟨_, _, by rw [e]⟩
theorem argH_ok (ar : ∀ a ∈ A, ArgOb h A a) : HOk P w (argH K h A) h := fun b u q => by
  obtain ⟨_, vs, h1, h2, ⟨e, rfl⟩ | ⟨e, rfl⟩⟩ := argH_is ar q
  · exact ⟨e, by rw [List.length_map]; exact h1, vs, _, vals_toV h2, e⟩
  · exact ⟨e, by rw [List.length_map]; exact h1, vs, vals_toV h2, _, e, rfl, _, rfl⟩
theorem seq_inj {c c' : Value} {vs us : List Value} (e : (some { cls := c, data := .seq vs.toArray } : Option Obj) = some { cls := c', data := .seq us.toArray }) : c = c' ∧ vs = us := by
  have e1 := Option.some.inj e
  have e2 : c = c' := congrArg Obj.cls e1
  have e3 : Data.seq vs.toArray = Data.seq us.toArray := congrArg Obj.data e1
  injection e3 with e4
  refine ⟨e2, ?_⟩
  have e5 := congrArg Array.toList e4
  simpa using e5
/-- a list argument -/
theorem argL (KX : K.In h) (ar : ∀ a ∈ A, ArgOb h A a) {a : Addr} {vs : List Value} (ha : a ∈ A) (e : h.get? a = some { cls := .type "list", data := .seq vs.toArray }) : (∀ u ∈ vs, OkU A u) ∧ SqL K (argH K h A) a (vs.map toV) := by
  obtain ⟨us, h1, h2, h3⟩ := ar a ha
  have hu : us = vs := by
    rcases h3 with q | q
    · rw [e] at q
      exact (seq_inj q).2.symm
    · rw [e] at q
      exact absurd (Value.type.inj (seq_inj q).1) (by decide)
  subst hu
  refine ⟨h2, ?_⟩
  cases hk : K.lookup a with
  | none => exact .inl (.inr ⟨_, by rw [argH_at ha hk e, hoOf_lst]⟩)
  | some o =>
    have e2 := KX a o hk
    rw [e] at e2
    obtain rfl := Option.some.inj e2
    exact .inr ⟨_, us.toArray, _, hk, rfl, rfl, rfl, by rw [List.size_toArray]; exact h1, by simpa using vals_toV h2⟩
theorem argT (KX : K.In h) (ar : ∀ a ∈ A, ArgOb h A a) {a : Addr} {vs : List Value} (ha : a ∈ A) (e : h.get? a = some { cls := .type "tuple", data := .seq vs.toArray }) : (∀ u ∈ vs, OkU A u) ∧ SqT K (argH K h A) a (vs.map toV) := by
  obtain ⟨us, h1, h2, h3⟩ := ar a ha
  have hu : us = vs := by
    rcases h3 with q | q
    · rw [e] at q
      exact absurd (Value.type.inj (seq_inj q).1) (by decide)
    · rw [e] at q
      exact (seq_inj q).2.symm
  subst hu
  refine ⟨h2, ?_⟩
  cases hk : K.lookup a with
  | none => exact .inl (.inr ⟨_, by rw [argH_at ha hk e, hoOf_tup]⟩)
  | some o =>
    have e2 := KX a o hk
    rw [e] at e2
    obtain rfl := Option.some.inj e2
    exact .inr ⟨_, us.toArray, _, hk, rfl, rfl, by rw [List.size_toArray]; exact h1, by simpa using vals_toV h2⟩
mutual
theorem dw_one {Pm : Params} (KX : K.In h) (ar : ∀ a ∈ A, ArgOb h A a) : ∀ (d : WData) (v : Value), Well Pm h v d → plW d = true → OkU A v → Dw K (argH K h A) (toV v) d
  | .none, _, x, _, _ => by
    cases x
    exact .non
  | .bool b, _, x, _, _ => by
    cases x
    exact .bl b
  | .int i, _, x, _, _ => by
    cases x
    exact .int i
  | .str s, _, x, _, _ => by
    cases x
    exact .str s
  | .bytes b, _, x, _, _ => by
    cases x
    have z := Dw.byt (K := K) (H := argH K h A) b.toArray
    exact z
  | .list ds, _, x, p, hu => by
    obtain ⟨a, vs, rfl, ho, hall⟩ := well_list x
    obtain ⟨h2, hs⟩ := argL KX ar hu ho
    exact .lst hs (dw_all KX ar ds _ hall p h2)
  | .tuple ds, _, x, p, hu => by
    obtain ⟨a, vs, rfl, ho, hall⟩ := well_tuple x
    obtain ⟨h2, hs⟩ := argT KX ar hu ho
    exact .tup hs (dw_all KX ar ds _ hall p h2)
  | .float _, _, _, p, _ => Bool.noConfusion (show false = true from p)
  | .dict _, _, _, p, _ => Bool.noConfusion (show false = true from p)
  | .bytearray _, _, _, p, _ => Bool.noConfusion (show false = true from p)
  | .set _, _, _, p, _ => Bool.noConfusion (show false = true from p)
  | .frozenset _, _, _, p, _ => Bool.noConfusion (show false = true from p)
  | .obj _ _, _, _, p, _ => Bool.noConfusion (show false = true from p)
theorem dw_all {Pm : Params} (KX : K.In h) (ar : ∀ a ∈ A, ArgOb h A a) : ∀ (ds : List WData) (vs : List Value), WellAll Pm h vs ds → plWs ds = true → (∀ u ∈ vs, OkU A u) → DwAll K (argH K h A) (vs.map toV) ds
  | [], _, x, _, _ => by
    cases x
    exact .nil
  | d :: ds, _, x, p, hu => by
    obtain ⟨v, vs, rfl, x1, x2⟩ := well_cons x
    have q : plW d = true ∧ plWs ds = true := Bool.and_eq_true_iff.mp p
    exact .cons (dw_one KX ar d v x1 q.1 (hu _ (List.mem_cons_self ..))) (dw_all KX ar ds vs x2 q.2 fun u m => hu u (List.mem_cons_of_mem _ m))
end
end
/-! ### the call -/
theorem spec_call {P : Program} {w : World} {K : PySem.W.Frag} {mg mb : Str → Option Value} {CX : CXT} {k : Nat} {fa : Addr} {fd : FuncData} {ps : List Str} {sp : Sp} {s₁ : Shared} {vals : List Value} {ds : List WData} {R : PySem.W.WRecords} {cl : Str → Option Addr} {d0 : WData}
    (KX : K.In s₁.heap) (hns : s₁.heap.Ns mainGlobals mg) (hb : s₁.heap.Ns builtinsNs mb) (hbb : ∀ x : Str, x ≠ "__name__" → mb x = bootBuiltins x) (hlim : s₁.heap.NoLimit) (hg : s₁.gens = #[])
    (hwl : WellAll w.params s₁.heap vals ds) (hpl : plWs ds = true) (hwt : ∀ d ∈ ds, d.weight ≤ 1048576) (hr : Room k callerA)
    (F : ∀ base : Heap, K.In base → base.Ns mainGlobals mg → FnOk P w K mg base CX k fa fd ps sp) (hbind : ∀ (s : Shared) (us : List Value), us.length = ps.length → BindsTo s fd ⟨us, []⟩ (ps.zip us)) (hlen : ds.length = ps.length)
    (hsp : ∀ (H : Hp) (xs : List V), OnlyF H → DwAll K H xs ds → sp xs H (fun v H' => Dw K H' v d0) fun _ _ _ => False)
    (hCX : ∀ H e s', CX [] H s₁ (fun _ _ _ => False) e s' → False) :
    codeAny (model P w) callerA (.call (.ref fa) ⟨vals, []⟩) (fun r s' => ∃ u as, r = .ok (.ret u) ∧ ReadsW R cl s'.heap u d0 as ∧ OldK s₁.heap s'.heap ∧ s'.os = s₁.os ∧ AllBare s'.gens) s₁ := by
  obtain ⟨A, ho, ar⟩ := area_all ds vals hwl hpl hwt
  have hO : OnlyF (argH K s₁.heap A) := argH_only ar
  have hok : HOk P w (argH K s₁.heap A) s₁.heap := argH_ok ar
  have hS := dw_all KX ar ds vals hwl hpl ho
  have hV := vals_toV ho
  have hK : ∀ b u, argH K s₁.heap A b = some u → K.lookup b = none := fun b u q => (argH_is ar q).1
  have noA : ∀ {b : Addr} {o : Obj} {es : Array DictEntry} {ep : Nat}, s₁.heap.get? b = some o → o.data = .dict es ep → argH K s₁.heap A b = none := fun {b o es ep} e d => by
    cases q : argH K s₁.heap A b with
    | none => rfl
    | some u =>
      obtain ⟨_, vs, _, _, ⟨e2, _⟩ | ⟨e2, _⟩⟩ := argH_is ar q
      · rw [e2] at e
        cases e
        have d' : Data.seq vs.toArray _ = Data.dict es ep := d
        cases d'
      · rw [e2] at e
        cases e
        have d' : Data.seq vs.toArray _ = Data.dict es ep := d
        cases d'
  generalize argH K s₁.heap A = H at hO hok hS hK noA
  have base_of : ∀ {b : Addr} {o : Obj}, s₁.heap.get? b = some o → H b = none → (hidT s₁.heap H).get? b = some o := fun e n => hidT_get e n
  have nsK : ∀ {b : Addr} {m : Str → Option Value}, s₁.heap.Ns b m → (hidT s₁.heap H).Ns b m := fun {b m} ⟨o, es, ep, e, d, r⟩ => ⟨o, es, ep, base_of e (noA e d), d, r⟩
  have nK : ∀ b o, K.lookup b = some o → H b = none := fun b o e => by
    cases q : H b with
    | none => rfl
    | some u =>
      rw [hK b u q] at e
      cases e
  have hKb : K.In (hidT s₁.heap H) := fun b o e => base_of (KX b o e) (nK b o e)
  have hM : Mod K mg (hidT s₁.heap H) := ⟨hKb, nsK hns, ⟨mb, nsK hb, hbb⟩, let ⟨mc, h1, h2⟩ := hlim; ⟨mc, nsK h1, h2⟩⟩
  have e0 : Env0 P w K mg (hidT s₁.heap H) callerA [] s₁ H := ⟨rfl, hM, fun b o e => of_hidT e, Nat.le_of_eq (hidT_size _ _), trivial, fun b hb => absurd (show b ∈ ([] : List Addr) from hb) (by simp), hok, .of_eq hg⟩
  have hl : vals.length = ps.length := by rw [wellAll_len hwl]; exact hlen
  refine codeAny_mono ((F _ hKb (nsK hns)).run callerA [] s₁ H ⟨vals, []⟩ vals (vals.map toV) _ _ hr e0 (hbind s₁ vals hl) hV (hsp H _ hO hS)) fun r s' x => ?_
  cases r with
  | error e => exact (hCX H e s' x).elim
  | ok fl =>
    cases fl with
    | next => exact False.elim x
    | brk => exact False.elim x
    | cont => exact False.elim x
    | ret u =>
      obtain ⟨v, H', os, bare, un, hok', r', q⟩ := x
      have kept : ∀ b o, s₁.heap.get? b = some o → s'.heap.get? b = some o := fun b o e => by
        cases q2 : H b with
        | none => exact un.keep b o e q2 (by intro z; exact absurd (show b ∈ ([] : List Addr) from z) (by simp)) (by simp)
        | some u2 =>
          rcases hO b with z | ⟨ob, u3, z⟩
          · rw [q2] at z
            cases z
          · have z2 := un.frzs b ob _ z
            obtain ⟨e1, _⟩ := hok b _ z
            obtain ⟨e2, _⟩ := hok' b _ z2
            rw [e] at e1
            cases e1
            exact e2
      have KX' : K.In s'.heap := fun b o e => kept b o (KX b o e)
      obtain ⟨as, hrd⟩ := Dw.reads (R := R) (cl := cl) hok' KX' d0 v u q r'
      exact ⟨u, as, rfl, hrd, OldK.of_keep kept, os, bare⟩
/-! ### the row -/
theorem layable_weight {ds : List WData} (h : WData.layableAll ds = true) : ∀ d ∈ ds, d.weight ≤ 1048576 := fun d hd =>
  (PySem.W.layableW_iff.mp (List.all_eq_true.mp h d hd)).2.2
theorem encAll_len : ∀ (cs : List Codec) (a : Codec.denoteAll cs), (Codec.encAll cs a).length = cs.length
  | [], _ => rfl
  | c :: cs, a => by
    show (Codec.encAll cs a.2).length + 1 = cs.length + 1
    rw [encAll_len cs a.2]
/-- the goal that k_headS leaves (case hc), from the promise of the row's def: whatever the arguments that the codecs let and the row asks for, the def gives what stands for enc (f ..) -/
theorem walk_spec {r : OpenSpec} {k : Nat} {q : Program} {loose : List Str} {XP : (Str → Option Value) → Heap → Prop} {YP : World → Heap → Prop} {d : DefRec} {K : Params → PySem.W.Frag} {CX : World → CXT} {ps : List Str} {sp : World → Sp}
    (hwell : r.wellSaid = true) (hdf : d.params.defaults = []) (hlen : r.args.length = ps.length) (hr : Room k callerA)
    (hY : ∀ (w : World) (h : Heap), YP w h → (K w.params).In h)
    (F : ∀ (w : World) (mg : Str → Option Value) (fa : Addr) (h : Heap), YP w h → (K w.params).In h → h.Ns mainGlobals mg → mg d.name = some (.ref fa) →
      ∃ fd : FuncData, (∀ (s : Shared) (us : List Value), us.length = ps.length → BindsTo s fd ⟨us, []⟩ (ps.zip us)) ∧
        ∀ base : Heap, (K w.params).In base → base.Ns mainGlobals mg → FnOk r.prog w (K w.params) mg base (CX w) k fa fd ps (sp w))
    (hsp : ∀ (w : World) (H : Hp) (xs : List V) (a : Codec.denoteAll r.args), OnlyF H → Codec.withinAll r.args a = true → Codec.app r.args r.asked a = true → DwAll (K w.params) H xs (Codec.encAll r.args a) →
      sp w xs H (fun v H' => Dw (K w.params) H' v (r.ret.enc (Codec.app r.args r.f a))) fun _ _ _ => False)
    (hCX : ∀ (w : World) (H : Hp) (s : Shared) (e : Value) (s' : Shared), CX w [] H s (fun _ _ _ => False) e s' → False) :
    PySem.W.WalkOS q loose XP YP r d [] (fun f vs => PySem.call f vs) := by
  intro w s_0 s₁ mg mb G Y fa o pm cd doc dV kV ho hd hcd hD hmg hg args vals as hpre hlay hrd hwl hlo
  obtain ⟨a, e1, e2⟩ := PySem.W.os_pre_some hpre
  obtain ⟨e3, hwi⟩ := Codec.encAll_of_decAll r.args args a e1
  subst e3
  have KX := hY w _ Y
  obtain ⟨fd, hb, hF⟩ := F w mg fa _ Y KX G.T.g hmg
  refine PySem.W.enter_call (codeAny_mono (spec_call (R := []) (cl := classAt s_0.heap) (d0 := r.ret.enc (Codec.app r.args r.f a)) KX G.T.g G.T.b G.T.builtins G.T.nolimit hg hwl (pl_encAll _ _) (layable_weight hlay) hr hF hb (by rw [encAll_len]; exact hlen)
    (fun H xs hO hS => hsp w H xs a hO hwi e2 hS) fun H e s' => hCX w H s₁ e s') fun r' s' hq => ?_)
  obtain ⟨u, as', rfl, h1, h2, h3, h4⟩ := hq
  exact ⟨.inl ⟨u, _, as', rfl, fun _ => rfl, h1, (OpenSpec.post_iff hwell hwi _ _).mpr rfl, fun z => Bool.noConfusion (show false = true from z)⟩, h2, h3, h4⟩
/-- the same where the promise hangs on the written part alone -/
theorem walk_specK {r : OpenSpec} {k : Nat} {q : Program} {loose : List Str} {XP : (Str → Option Value) → Heap → Prop} {YP : World → Heap → Prop} {d : DefRec} {K : Params → PySem.W.Frag} {CX : CXT} {ps : List Str} {sp : PySem.W.Frag → Sp}
    (hwell : r.wellSaid = true) (hdf : d.params.defaults = []) (hlen : r.args.length = ps.length) (hr : Room k callerA)
    (hY : ∀ (w : World) (h : Heap), YP w h → (K w.params).In h)
    (F : ∀ (w : World) (mg : Str → Option Value) (fa : Addr) (h : Heap), YP w h → (K w.params).In h → h.Ns mainGlobals mg → mg d.name = some (.ref fa) →
      ∃ fd : FuncData, (∀ (s : Shared) (us : List Value), us.length = ps.length → BindsTo s fd ⟨us, []⟩ (ps.zip us)) ∧
        ∀ base : Heap, (K w.params).In base → base.Ns mainGlobals mg → FnOk r.prog w (K w.params) mg base CX k fa fd ps (sp (K w.params)))
    (hsp : ∀ (K : PySem.W.Frag) (H : Hp) (xs : List V) (a : Codec.denoteAll r.args), OnlyF H → Codec.withinAll r.args a = true → Codec.app r.args r.asked a = true → DwAll K H xs (Codec.encAll r.args a) →
      sp K xs H (fun v H' => Dw K H' v (r.ret.enc (Codec.app r.args r.f a))) fun _ _ _ => False)
    (hCX : ∀ (H : Hp) (s : Shared) (e : Value) (s' : Shared), CX [] H s (fun _ _ _ => False) e s' → False) :
    PySem.W.WalkOS q loose XP YP r d [] (fun f vs => PySem.call f vs) :=
  walk_spec (K := K) (CX := fun _ => CX) (sp := fun w => sp (K w.params)) hwell hdf hlen hr hY F (fun w H xs a h1 h2 h3 h4 => hsp (K w.params) H xs a h1 h2 h3 h4) fun _ H s e s' => hCX H s e s'
end L2
-- rests on (row put in by the clerk, for the bench that shows a file only what it spells): KE.SpHead KE.OsShapes
end


section
set_option Elab.async false
set_option maxHeartbeats 1000000
namespace Ch
open Uw78 (Call)
/-- a call as it is handed in -/
def enc : Uw78.Call → List Int
  | .begins k => [0, k]
  | .rule a b c d => [1, a, b, c, d]
  | .old => [2]
  | .are s => 3 :: (s.length : Int) :: Uw78.ints s
  | .meet a b => [4, a, b]
  | .may => [5]
  | .to s => 6 :: (s.length : Int) :: Uw78.ints s
  | .one c => [7, c]
  | .comes => [8]
  | .rests => [9]
  | .always s => 10 :: (s.length : Int) :: Uw78.ints s
  | .kept m => [11, m]
/-- what is answered to calls, from an island on -/
def run : Uw78.Island → List Uw78.Call → List Int
  | _, [] => []
  | s, x :: xs => ((Uw78.step s x).2.length : Int) :: (Uw78.step s x).2 ++ run (Uw78.step s x).1 xs

theorem within_nat {x : Int} (h : PyInside.within 0 4294967295 x = true) : ∃ n : Nat, x = (n : Int) ∧ n < 4294967296 := by
  unfold PyInside.within at h
  rw [Bool.and_eq_true] at h
  have h1 := of_decide_eq_true h.1
  have h2 := of_decide_eq_true h.2
  exact ⟨x.toNat, by omega, by omega⟩
theorem nat_ok {n : Nat} (h : n < 4294967296) : Uw78Neutral.nat (n : Int) = true := by
  unfold Uw78Neutral.nat
  rw [Bool.and_eq_true]
  exact ⟨decide_eq_true (by omega), decide_eq_true (by omega)⟩
theorem row_nats : ∀ {l : List Int}, l.all (PyInside.within 0 4294967295) = true → ∃ s : List Nat, l = Uw78.ints s ∧ l.all Uw78Neutral.nat = true ∧ l.map Int.toNat = s
  | [], _ => ⟨[], rfl, rfl, rfl⟩
  | x :: l, h => by
    rw [List.all_cons, Bool.and_eq_true] at h
    obtain ⟨n, rfl, hn⟩ := within_nat h.1
    obtain ⟨s, rfl, h2, h3⟩ := row_nats h.2
    refine ⟨n :: s, rfl, ?_, ?_⟩
    · rw [List.all_cons, nat_ok hn, h2]; rfl
    · rw [List.map_cons, h3]; rfl
theorem row_inv {l x s : List Int} (h : PyFlat.row l = some (x, s)) : l = (x.length : Int) :: x ++ s := by
  cases l with
  | nil => cases h
  | cons n r =>
    have h' : (if 0 ≤ n ∧ n.toNat ≤ r.length then some (r.take n.toNat, r.drop n.toNat) else none) = some (x, s) := h
    by_cases k : 0 ≤ n ∧ n.toNat ≤ r.length
    · rw [if_pos k] at h'
      obtain ⟨e1, e2⟩ := Prod.mk.inj (Option.some.inj h')
      subst e1 e2
      have len : (r.take n.toNat).length = n.toNat := by rw [List.length_take]; omega
      rw [len, List.cons_append, List.take_append_drop, Int.toNat_of_nonneg k.1]
    · rw [if_neg k] at h'; cases h'
theorem step_of {s : Uw78.Island} {c : List Int} {x : Uw78.Call} (h : Uw78Neutral.callOf c = some x) : Uw78Neutral.step s c = Uw78.step s x := by
  unfold Uw78Neutral.step
  rw [h]
  rfl
theorem callOf_of {c : List Int} (h : c.all Uw78Neutral.nat = true) : Uw78Neutral.callOf c = Uw78Neutral.callIn (c.map Int.toNat) := by
  unfold Uw78Neutral.callOf
  rw [h]
  rfl
theorem rows1 {r : List Int} {xs : List (List Int)} {t : List Int} (h : PyFlat.rows 1 r = some (xs, t)) : ∃ x, xs = [x] ∧ r = (x.length : Int) :: x ++ t := by
  unfold PyFlat.rows at h
  cases e : PyFlat.row r with
  | none => rw [e] at h; cases h
  | some q =>
    obtain ⟨x, s⟩ := q
    rw [e] at h
    have h2 : some ([x], s) = some (xs, t) := h
    cases h2
    exact ⟨x, rfl, row_inv e⟩
theorem call_shape {p : Int} {r t : List Int} {c : List (List Int)} {n k : Nat} (hs : PyUw78.shape p = some (n, k)) (h : PyFlat.call PyUw78.shape (p :: r) = some (c, t)) :
    n ≤ r.length ∧ ∃ xs, PyFlat.rows k (r.drop n) = some (xs, t) ∧ c = (p :: r.take n) :: xs := by
  rw [PyFlat.call] at h
  rw [hs] at h
  have h' : (if r.length < n then none else match PyFlat.rows k (r.drop n) with
      | none => none
      | some (xs, t) => some ((p :: r.take n) :: xs, t)) = some (c, t) := h
  by_cases hl : r.length < n
  · rw [if_pos hl] at h'; cases h'
  · rw [if_neg hl] at h'
    refine ⟨by omega, ?_⟩
    cases e : PyFlat.rows k (r.drop n) with
    | none => rw [e] at h'; cases h'
    | some q =>
      obtain ⟨xs, u⟩ := q
      rw [e] at h'
      have h2 : some ((p :: r.take n) :: xs, u) = some (c, t) := h'
      cases h2
      exact ⟨xs, rfl, rfl⟩
theorem plain_inv {p : Int} {r t : List Int} {c : List (List Int)} {n : Nat} (hs : PyUw78.shape p = some (n, 0)) (h : PyFlat.call PyUw78.shape (p :: r) = some (c, t)) :
    ∃ a : List Int, a.length = n ∧ r = a ++ t ∧ c = [p :: a] := by
  obtain ⟨hl, xs, h1, h2⟩ := call_shape hs h
  have h3 : some (([] : List (List Int)), r.drop n) = some (xs, t) := h1
  cases h3
  exact ⟨r.take n, by rw [List.length_take]; omega, (List.take_append_drop n r).symm, h2⟩
theorem row_inv1 {p : Int} {r t : List Int} {c : List (List Int)} (hs : PyUw78.shape p = some (0, 1)) (h : PyFlat.call PyUw78.shape (p :: r) = some (c, t)) :
    ∃ a : List Int, r = (a.length : Int) :: a ++ t ∧ c = [[p], a] := by
  obtain ⟨hl, xs, h1, h2⟩ := call_shape hs h
  obtain ⟨x, rfl, e⟩ := rows1 h1
  exact ⟨x, e, h2⟩
theorem lists_ok {a : List Int} (h : PyInside.lists [(0, 4294967295, 0, 40)] [a] = true) : a.length ≤ 40 ∧ a.all (PyInside.within 0 4294967295) = true := by
  unfold PyInside.lists at h
  rw [Bool.and_eq_true, Bool.and_eq_true, Bool.and_eq_true] at h
  exact ⟨of_decide_eq_true h.1.1.2, h.1.2⟩
/-- a call, read back -/
theorem call_inv {l t : List Int} {c : List (List Int)} (h : PyFlat.call PyUw78.shape l = some (c, t)) (hb : PyInside.call PyUw78.bound c = true) :
    ∃ x : Uw78.Call, l = enc x ++ t ∧ ∀ s, Uw78Neutral.step s ((PyUw78.whole c).headD []) = Uw78.step s x := by
  cases l with
  | nil => cases h
  | cons p r =>
    have one : ∀ q : Int, PyUw78.shape q = some (1, 0) → PyUw78.bound q = ([(0, 4294967295)], []) → p = q → ∃ n : Nat, r = (n : Int) :: t ∧ c = [[q, (n : Int)]] ∧ n < 4294967296 := fun q hq hbq e => by
      subst e
      obtain ⟨a, la, rfl, rfl⟩ := plain_inv hq h
      match a, la with
      | [x], _ =>
        have hb' : (PyInside.each (PyUw78.bound p).1 [x] && PyInside.lists (PyUw78.bound p).2 []) = true := hb
        rw [hbq] at hb'
        have h1 : (PyInside.within 0 4294967295 x && true && true) = true := hb'
        rw [Bool.and_true, Bool.and_true] at h1
        obtain ⟨n, rfl, hn⟩ := within_nat h1
        exact ⟨n, rfl, rfl, hn⟩
    have none_ : ∀ q : Int, PyUw78.shape q = some (0, 0) → p = q → r = t ∧ c = [[q]] := fun q hq e => by
      subst e
      obtain ⟨a, la, rfl, rfl⟩ := plain_inv hq h
      match a, la with
      | [], _ => exact ⟨rfl, rfl⟩
    have row_ : ∀ q : Int, PyUw78.shape q = some (0, 1) → PyUw78.bound q = ([], [(0, 4294967295, 0, 40)]) → p = q → ∃ s : List Nat, r = (s.length : Int) :: Uw78.ints s ++ t ∧ c = [[q], Uw78.ints s] ∧ (Uw78.ints s).all Uw78Neutral.nat = true ∧ (Uw78.ints s).map Int.toNat = s := fun q hq hbq e => by
      subst e
      obtain ⟨a, rfl, rfl⟩ := row_inv1 hq h
      have hb' : (PyInside.each (PyUw78.bound p).1 [] && PyInside.lists (PyUw78.bound p).2 [a]) = true := hb
      rw [hbq] at hb'
      have h1 : (true && PyInside.lists [(0, 4294967295, 0, 40)] [a]) = true := hb'
      rw [Bool.true_and] at h1
      obtain ⟨s, rfl, h2, h3⟩ := row_nats (lists_ok h1).2
      exact ⟨s, by rw [show (Uw78.ints s).length = s.length from List.length_map _], rfl, h2, h3⟩
    by_cases e0 : p = 0
    · obtain ⟨n, rfl, rfl, hn⟩ := one 0 rfl rfl e0
      subst e0
      exact ⟨.begins n, rfl, fun s => step_of (by
        show Uw78Neutral.callOf [0, (n : Int)] = _
        rw [callOf_of (by rw [List.all_cons, List.all_cons, nat_ok hn]; rfl)]; rfl)⟩
    by_cases e1 : p = 1
    · subst e1
      obtain ⟨a, la, rfl, rfl⟩ := plain_inv (n := 4) rfl h
      match a, la with
      | [a, b, c, d], _ =>
        have hb' : (PyInside.within 0 4294967295 a && (PyInside.within 0 4294967295 b && (PyInside.within 0 4294967295 c && (PyInside.within 0 4294967295 d && true))) && true) = true := hb
        rw [Bool.and_true, Bool.and_true, Bool.and_eq_true, Bool.and_eq_true, Bool.and_eq_true] at hb'
        obtain ⟨h1, h2, h3, h4⟩ := hb'
        obtain ⟨a, rfl, ha⟩ := within_nat h1
        obtain ⟨b, rfl, hb2⟩ := within_nat h2
        obtain ⟨c, rfl, hc⟩ := within_nat h3
        obtain ⟨d, rfl, hd⟩ := within_nat h4
        exact ⟨.rule a b c d, rfl, fun s => step_of (by
          show Uw78Neutral.callOf [1, (a : Int), (b : Int), (c : Int), (d : Int)] = _
          rw [callOf_of (by rw [List.all_cons, List.all_cons, nat_ok ha, List.all_cons, nat_ok hb2, List.all_cons, nat_ok hc, List.all_cons, nat_ok hd]; rfl)]; rfl)⟩
    by_cases e2 : p = 2
    · obtain ⟨rfl, rfl⟩ := none_ 2 rfl e2
      subst e2
      exact ⟨.old, rfl, fun s => step_of rfl⟩
    by_cases e3 : p = 3
    · obtain ⟨s, rfl, rfl, h1, h2⟩ := row_ 3 rfl rfl e3
      subst e3
      refine ⟨.are s, rfl, fun x => step_of ?_⟩
      show Uw78Neutral.callOf (3 :: Uw78.ints s) = _
      rw [callOf_of (by rw [List.all_cons, h1]; rfl), List.map_cons, h2]
      rfl
    by_cases e4 : p = 4
    · subst e4
      obtain ⟨a, la, rfl, rfl⟩ := plain_inv (n := 2) rfl h
      match a, la with
      | [a, b], _ =>
        have hb' : (PyInside.within 0 4294967295 a && (PyInside.within 0 4294967295 b && true) && true) = true := hb
        rw [Bool.and_true, Bool.and_true, Bool.and_eq_true] at hb'
        obtain ⟨h1, h2⟩ := hb'
        obtain ⟨a, rfl, ha⟩ := within_nat h1
        obtain ⟨b, rfl, hb2⟩ := within_nat h2
        exact ⟨.meet a b, rfl, fun s => step_of (by
          show Uw78Neutral.callOf [4, (a : Int), (b : Int)] = _
          rw [callOf_of (by rw [List.all_cons, List.all_cons, nat_ok ha, List.all_cons, nat_ok hb2]; rfl)]; rfl)⟩
    by_cases e5 : p = 5
    · obtain ⟨rfl, rfl⟩ := none_ 5 rfl e5
      subst e5
      exact ⟨.may, rfl, fun s => step_of rfl⟩
    by_cases e6 : p = 6
    · obtain ⟨s, rfl, rfl, h1, h2⟩ := row_ 6 rfl rfl e6
      subst e6
      refine ⟨.to s, rfl, fun x => step_of ?_⟩
      show Uw78Neutral.callOf (6 :: Uw78.ints s) = _
      rw [callOf_of (by rw [List.all_cons, h1]; rfl), List.map_cons, h2]
      rfl
    by_cases e7 : p = 7
    · obtain ⟨n, rfl, rfl, hn⟩ := one 7 rfl rfl e7
      subst e7
      exact ⟨.one n, rfl, fun s => step_of (by
        show Uw78Neutral.callOf [7, (n : Int)] = _
        rw [callOf_of (by rw [List.all_cons, List.all_cons, nat_ok hn]; rfl)]; rfl)⟩
    by_cases e8 : p = 8
    · obtain ⟨rfl, rfl⟩ := none_ 8 rfl e8
      subst e8
      exact ⟨.comes, rfl, fun s => step_of rfl⟩
    by_cases e9 : p = 9
    · obtain ⟨rfl, rfl⟩ := none_ 9 rfl e9
      subst e9
      exact ⟨.rests, rfl, fun s => step_of rfl⟩
    by_cases e10 : p = 10
    · obtain ⟨s, rfl, rfl, h1, h2⟩ := row_ 10 rfl rfl e10
      subst e10
      refine ⟨.always s, rfl, fun x => step_of ?_⟩
      show Uw78Neutral.callOf (10 :: Uw78.ints s) = _
      rw [callOf_of (by rw [List.all_cons, h1]; rfl), List.map_cons, h2]
      rfl
    by_cases e11 : p = 11
    · obtain ⟨n, rfl, rfl, hn⟩ := one 11 rfl rfl e11
      subst e11
      exact ⟨.kept n, rfl, fun s => step_of (by
        show Uw78Neutral.callOf [11, (n : Int)] = _
        rw [callOf_of (by rw [List.all_cons, List.all_cons, nat_ok hn]; rfl)]; rfl)⟩
    · have hs : PyUw78.shape p = none := by
        unfold PyUw78.shape
        rw [if_neg e0, if_neg e1, if_neg e2, if_neg e3, if_neg e4, if_neg e5, if_neg e6, if_neg e7, if_neg e8, if_neg e9, if_neg e10, if_neg e11]
      rw [PyFlat.call] at h
      rw [hs] at h
      cases h
theorem calls_inv : ∀ {raw : List (List (List Int))} {f : Nat} {l : List Int}, PyFlat.calls PyUw78.shape f l = some raw → PyInside.calls PyUw78.bound raw = true →
    ∃ xs : List Uw78.Call, l = xs.flatMap enc ∧ ∀ s, PyFlat.told (PyFlat.played (fun s c => Uw78Neutral.step s (c.headD [])) s (raw.map PyUw78.whole)) = run s xs
  | [], f, l, h, _ => by
    cases l with
    | nil => exact ⟨[], rfl, fun _ => rfl⟩
    | cons p r =>
      cases f with
      | zero => cases h
      | succ f =>
        unfold PyFlat.calls at h
        cases e : PyFlat.call PyUw78.shape (p :: r) with
        | none => rw [e] at h; cases h
        | some q =>
          obtain ⟨c, t⟩ := q
          rw [e] at h
          have h' : (match PyFlat.calls PyUw78.shape f t with
            | none => none
            | some cs => some (c :: cs)) = some [] := h
          cases e2 : PyFlat.calls PyUw78.shape f t with
          | none => rw [e2] at h'; cases h'
          | some cs => rw [e2] at h'; cases h'
  | c :: raw, f, l, h, hb => by
    cases l with
    | nil => unfold PyFlat.calls at h; cases f <;> cases h
    | cons p r =>
      cases f with
      | zero => cases h
      | succ f =>
        unfold PyFlat.calls at h
        cases e : PyFlat.call PyUw78.shape (p :: r) with
        | none => rw [e] at h; cases h
        | some q =>
          obtain ⟨c', t⟩ := q
          rw [e] at h
          have h' : (match PyFlat.calls PyUw78.shape f t with
            | none => none
            | some cs => some (c' :: cs)) = some (c :: raw) := h
          cases e2 : PyFlat.calls PyUw78.shape f t with
          | none => rw [e2] at h'; cases h'
          | some cs =>
            rw [e2] at h'
            have h2 : some (c' :: cs) = some (c :: raw) := h'
            cases h2
            unfold PyInside.calls at hb
            rw [List.all_cons, Bool.and_eq_true] at hb
            obtain ⟨x, h3, h4⟩ := call_inv e hb.1
            obtain ⟨xs, h5, h6⟩ := calls_inv e2 hb.2
            refine ⟨x :: xs, by rw [h3, h5]; rfl, fun s => ?_⟩
            show ((Uw78Neutral.step s ((PyUw78.whole c).headD [])).2.length : Int) :: (Uw78Neutral.step s ((PyUw78.whole c).headD [])).2 ++ PyFlat.told (PyFlat.played (fun s c => Uw78Neutral.step s (c.headD [])) (Uw78Neutral.step s ((PyUw78.whole c).headD [])).1 (raw.map PyUw78.whole)) = run s (x :: xs)
            rw [h6, h4]
            rfl
/-- **what is asked, and what is due**, call by call -/
theorem asked_inv {l : List Int} (h : PyUw78.answers_asked l = true) : ∃ xs : List Uw78.Call, l = xs.flatMap enc ∧ PyUw78.answers l = run Uw78.init xs ∧ (PyUw78.answers l).length ≤ 10000000 := by
  unfold PyUw78.answers_asked at h
  cases e : PyFlat.calls PyUw78.shape l.length l with
  | none => rw [e] at h; cases h
  | some raw =>
    rw [e] at h
    have h' : (!raw.isEmpty && PyFlat.atMost 40 raw && PyInside.calls PyUw78.bound raw && Uw78Neutral.asked ((raw.map PyUw78.whole).map fun c => c.headD []) && PyFlat.short 10000000 (PyUw78.answers l)) = true := h
    rw [Bool.and_eq_true, Bool.and_eq_true, Bool.and_eq_true, Bool.and_eq_true] at h'
    obtain ⟨xs, h1, h2⟩ := calls_inv e h'.1.1.2
    refine ⟨xs, h1, ?_, of_decide_eq_true h'.2⟩
    have e3 : PyUw78.answers l = PyFlat.told (PyFlat.played (fun s c => Uw78Neutral.step s (c.headD [])) Uw78Neutral.start (raw.map PyUw78.whole)) := by
      unfold PyUw78.answers PyUw78.calls
      rw [e]
    rw [e3, h2]
    rfl
end Ch

end

section
set_option Elab.async false
set_option maxHeartbeats 1000000
namespace Ch
open Uw78
/-! ### the twos -/
theorem mem_twos {k a b : Nat} : (a, b) ∈ twos k ↔ a ≤ b ∧ b < k := by
  unfold twos
  rw [List.mem_flatMap]
  constructor
  · rintro ⟨a', ha', h⟩
    rw [List.mem_filterMap] at h
    obtain ⟨b', hb', h⟩ := h
    by_cases q : a' ≤ b'
    · rw [if_pos q] at h
      cases h
      exact ⟨q, List.mem_range.mp hb'⟩
    · rw [if_neg q] at h; cases h
  · rintro ⟨h1, h2⟩
    exact ⟨a, List.mem_range.mpr (by omega), List.mem_filterMap.mpr ⟨b, List.mem_range.mpr h2, if_pos h1⟩⟩
theorem twos_nodup {k : Nat} (h2 : 2 ≤ k) (h4 : k ≤ 4) : (twos k).Nodup := by
  match k, h2, h4 with
  | 2, _, _ => decide
  | 3, _, _ => decide
  | 4, _, _ => decide
theorem twos_len {k : Nat} (h2 : 2 ≤ k) (h4 : k ≤ 4) : (twos k).length ≤ 10 := by
  match k, h2, h4 with
  | 2, _, _ => decide
  | 3, _, _ => decide
  | 4, _, _ => decide
/-- those with a first colour below i -/
def twosTo (k i : Nat) : List (Nat × Nat) := (List.range i).flatMap fun a => (List.range (k - a)).map fun j => (a, a + j)
theorem twosTo_succ (k i : Nat) : twosTo k (i + 1) = twosTo k i ++ (List.range (k - i)).map fun j => (i, i + j) := by
  unfold twosTo
  rw [List.range_succ, List.flatMap_append]
  simp
theorem twosTo_all {k : Nat} (h2 : 2 ≤ k) (h4 : k ≤ 4) : twosTo k k = twos k := by
  match k, h2, h4 with
  | 2, _, _ => decide
  | 3, _, _ => decide
  | 4, _, _ => decide
/-! ### a well-formed island -/
def key (r : Rule) : Nat × Nat := (r.a, r.b)
structure Wf (x : Island) : Prop where
  k2 : 2 ≤ x.k
  k4 : x.k ≤ 4
  keys : x.rules.map key = twos x.k
  cd : ∀ r ∈ x.rules, r.c ≤ r.d ∧ r.d < x.k
  len : x.stand.length = x.k
  tot : total x.stand ≤ 7
theorem map_inj_nodup {α β : Type} {f : α → β} : ∀ {l : List α}, (l.map f).Nodup → ∀ {x y : α}, x ∈ l → y ∈ l → f x = f y → x = y
  | [], _, _, _, h, _, _ => by cases h
  | z :: l, hn, x, y, hx, hy, e => by
    rw [List.map_cons, List.nodup_cons] at hn
    rcases List.mem_cons.mp hx with rfl | hx1
    · rcases List.mem_cons.mp hy with rfl | hy1
      · rfl
      · exact absurd (List.mem_map.mpr ⟨y, hy1, e.symm⟩) hn.1
    · rcases List.mem_cons.mp hy with rfl | hy1
      · exact absurd (List.mem_map.mpr ⟨x, hx1, e⟩) hn.1
      · exact map_inj_nodup hn.2 hx1 hy1 e
theorem Wf.nd {x : Island} (w : Wf x) : (x.rules.map key).Nodup := by
  rw [w.keys]; exact twos_nodup w.k2 w.k4
theorem Wf.ab {x : Island} (w : Wf x) {r : Rule} (h : r ∈ x.rules) : r.a ≤ r.b ∧ r.b < x.k := by
  have : key r ∈ twos x.k := by rw [← w.keys]; exact List.mem_map.mpr ⟨r, h, rfl⟩
  exact mem_twos.mp this
theorem Wf.at_ {x : Island} (w : Wf x) {a b : Nat} (h1 : a ≤ b) (h2 : b < x.k) : ∃ r ∈ x.rules, r.a = a ∧ r.b = b := by
  have : (a, b) ∈ x.rules.map key := by rw [w.keys]; exact mem_twos.mpr ⟨h1, h2⟩
  obtain ⟨r, hr, e⟩ := List.mem_map.mp this
  have e' : (r.a, r.b) = (a, b) := e
  cases e'
  exact ⟨r, hr, rfl, rfl⟩
theorem Wf.uniq {x : Island} (w : Wf x) {r r' : Rule} (h : r ∈ x.rules) (h' : r' ∈ x.rules) (ea : r.a = r'.a) (eb : r.b = r'.b) : r = r' :=
  map_inj_nodup w.nd h h' (by show (r.a, r.b) = (r'.a, r'.b); rw [ea, eb])
theorem Wf.rlen {x : Island} (w : Wf x) : x.rules.length ≤ 10 := by
  have h : (x.rules.map key).length ≤ 10 := by rw [w.keys]; exact twos_len w.k2 w.k4
  rwa [List.length_map] at h
theorem ordered_le (a b : Nat) : (ordered a b).1 ≤ (ordered a b).2 := by
  unfold ordered; split
  · assumption
  · show b ≤ a; omega
theorem ordered_lt {a b k : Nat} (ha : a < k) (hb : b < k) : (ordered a b).2 < k := by
  unfold ordered; split <;> assumption
/-! ### stands -/
theorem total_cons (a : Nat) (l : List Nat) : total (a :: l) = a + total l := by
  have h : ∀ (l : List Nat) (z : Nat), l.foldl (fun a b => a + b) z = z + l.foldl (fun a b => a + b) 0 := by
    intro l
    induction l with
    | nil => intro z; rfl
    | cons b l ih =>
      intro z
      rw [List.foldl_cons, List.foldl_cons, ih (z + b), ih (0 + b)]
      omega
  unfold total
  rw [List.foldl_cons, h]
  omega
theorem total_set : ∀ {l : List Nat} {a z : Nat}, a < l.length → total (l.set a z) + l.getD a 0 = total l + z
  | [], a, z, h => by cases h
  | y :: l, 0, z, _ => by
    rw [List.set_cons_zero, total_cons, total_cons]
    show z + total l + y = y + total l + z
    omega
  | y :: l, a + 1, z, h => by
    rw [List.set_cons_succ, total_cons, total_cons]
    have ih := total_set (l := l) (a := a) (z := z) (by simpa using h)
    show y + total (l.set a z) + l.getD a 0 = _
    omega
theorem getD_set {l : List Nat} {a b z : Nat} (h : a < l.length) : (l.set a z).getD b 0 = if b = a then z else l.getD b 0 := by
  rw [List.getD_eq_getElem?_getD, List.getD_eq_getElem?_getD, List.getElem?_set]
  by_cases e : b = a
  · subst e
    rw [if_pos rfl, if_pos h, if_pos rfl]; rfl
  · rw [if_neg (fun q => e q.symm), if_neg e]
theorem less_len (s : Stand) (a : Nat) : (less s a).length = s.length := List.length_set
theorem more_len (s : Stand) (a : Nat) : (more s a).length = s.length := List.length_set
theorem areThere_eq {s : Stand} {a b : Nat} (ha : a < s.length) : areThere s a b = if a = b then decide (2 ≤ s.getD a 0) else (decide (1 ≤ s.getD a 0) && decide (1 ≤ s.getD b 0)) := by
  unfold areThere less
  rw [getD_set ha]
  by_cases e : a = b
  · subst e
    rw [if_pos rfl, if_pos rfl]
    by_cases h : 2 ≤ s.getD a 0
    · rw [decide_eq_true (show 1 ≤ s.getD a 0 by omega), decide_eq_true (show 1 ≤ s.getD a 0 - 1 by omega), decide_eq_true h]; rfl
    · rw [decide_eq_false (show ¬ 1 ≤ s.getD a 0 - 1 by omega), decide_eq_false h, Bool.and_false]
  · rw [if_neg e, if_neg (fun q => e q.symm)]
theorem less_total {s : Stand} {a : Nat} (ha : a < s.length) (h : 1 ≤ s.getD a 0) : total (less s a) + 1 = total s := by
  have := total_set (z := s.getD a 0 - 1) ha
  unfold less
  omega
theorem more_total {s : Stand} {a : Nat} (ha : a < s.length) : total (more s a) = total s + 1 := by
  have := total_set (z := s.getD a 0 + 1) ha
  unfold more
  omega
theorem areThere_two {s : Stand} {a b : Nat} (h : areThere s a b = true) : 1 ≤ s.getD a 0 ∧ 1 ≤ (less s a).getD b 0 := by
  unfold areThere at h
  rw [Bool.and_eq_true] at h
  exact ⟨of_decide_eq_true h.1, of_decide_eq_true h.2⟩
theorem behind_len (s : Stand) (r : Rule) : (behind s r).length = s.length := by
  unfold behind; rw [more_len, more_len, less_len, less_len]
theorem behind_total {s : Stand} {r : Rule} (ha : r.a < s.length) (hb : r.b < s.length) (hc : r.c < s.length) (hd : r.d < s.length) (h : areThere s r.a r.b = true) : total (behind s r) = total s := by
  obtain ⟨h1, h2⟩ := areThere_two h
  unfold behind
  rw [more_total (by rw [more_len, less_len, less_len]; exact hd), more_total (by rw [less_len, less_len]; exact hc)]
  have e1 := less_total ha h1
  have e2 := less_total (s := less s r.a) (by rw [less_len]; exact hb) h2
  omega
/-! ### a rule by its two colours -/
theorem find_and {l : List Rule} {p : Rule → Bool} {q : Rule → Bool} {r : Rule} (hr : r ∈ l) (hq : q r = true) (u : ∀ r' ∈ l, q r' = true → r' = r) : (l.filter p).find? q = if p r = true then some r else none := by
  rw [List.find?_filter]
  by_cases h : p r = true
  · rw [if_pos h]
    cases e : l.find? fun a => decide (p a = true ∧ q a = true) with
    | none =>
      exact absurd (decide_eq_true ⟨h, hq⟩) (List.find?_eq_none.mp e r hr)
    | some r' =>
      have h0 := List.find?_some e
      have h1 : p r' = true ∧ q r' = true := of_decide_eq_true h0
      rw [u r' (List.mem_of_find?_eq_some e) h1.2]
  · rw [if_neg h]
    rw [List.find?_eq_none]
    intro r' hr' hh
    have hh := of_decide_eq_true hh
    exact h (by rw [← u r' hr' hh.2]; exact hh.1)
theorem may_find {x : Island} (w : Wf x) {r : Rule} (hr : r ∈ x.rules) (ht : areThere x.stand r.a r.b = true) :
    ((Uw78.may x.rules x.stand).find? fun r' => r'.a == r.a && r'.b == r.b) = if changes r = true then some r else none := by
  unfold Uw78.may
  rw [find_and (r := r) hr (by simp) (fun r' hr' e => by
    rw [Bool.and_eq_true, beq_iff_eq, beq_iff_eq] at e
    exact w.uniq hr' hr e.1 e.2)]
  rw [ht, Bool.and_true]
/-- the rules behind a, b told anew -/
def told (rs : List Rule) (p q : Nat × Nat) : List Rule := rs.map fun r => if r.a = p.1 ∧ r.b = p.2 then ⟨p.1, p.2, q.1, q.2⟩ else r
theorem told_keys (rs : List Rule) (p q : Nat × Nat) : (told rs p q).map key = rs.map key := by
  unfold told
  rw [List.map_map]
  apply List.map_congr_left
  intro r _
  show key (if r.a = p.1 ∧ r.b = p.2 then ⟨p.1, p.2, q.1, q.2⟩ else r) = key r
  split
  · rename_i h
    show (p.1, p.2) = (r.a, r.b)
    rw [h.1, h.2]
  · rfl
theorem plain_keys (k : Nat) : (plain k).map key = twos k := by
  unfold plain
  rw [List.map_map]
  exact List.map_id (twos k)
theorem total_zeros (k : Nat) : total (List.replicate k 0) = 0 := by
  induction k with
  | zero => rfl
  | succ k ih => rw [List.replicate_succ, total_cons, ih]
theorem wf_init : Wf init := by
  refine ⟨by decide, by decide, by decide, ?_, rfl, by decide⟩
  show ∀ r ∈ oldRules, r.c ≤ r.d ∧ r.d < 3
  decide
theorem wf_many {x : Island} (h : Wf x) : Wf (many x).1 := h
/-- each call leaves a well-formed island -/
theorem wf_step {x : Island} (w : Wf x) (c : Call) : Wf (step x c).1 := by
  cases c with
  | begins k =>
    show Wf (if k < 2 ∨ 4 < k then (x, ([-1] : List Int)) else (⟨k, plain k, List.replicate k 0⟩, [0])).1
    split
    · exact w
    · rename_i h
      refine ⟨by show 2 ≤ k; omega, by show k ≤ 4; omega, plain_keys k, ?_, List.length_replicate, ?_⟩
      · intro r hr
        have hr' : r ∈ (twos k).map fun x => (⟨x.1, x.2, x.1, x.2⟩ : Rule) := hr
        obtain ⟨⟨a, b⟩, hp, rfl⟩ := List.mem_map.mp hr'
        exact mem_twos.mp hp
      · show total (List.replicate k 0) ≤ 7
        rw [total_zeros]; omega
  | rule a b c d =>
    show Wf (if x.k ≤ a ∨ x.k ≤ b ∨ x.k ≤ c ∨ x.k ≤ d then (x, ([-1] : List Int)) else many { x with rules := told x.rules (ordered a b) (ordered c d) }).1
    split
    · exact w
    · rename_i h
      refine ⟨w.k2, w.k4, ?_, ?_, w.len, w.tot⟩
      · show (told x.rules (ordered a b) (ordered c d)).map key = twos x.k
        rw [told_keys, w.keys]
      · intro r hr
        have hr' : r ∈ told x.rules (ordered a b) (ordered c d) := hr
        obtain ⟨r0, h0, rfl⟩ := List.mem_map.mp hr'
        split
        · exact ⟨ordered_le c d, ordered_lt (k := x.k) (by omega) (by omega)⟩
        · exact w.cd r0 h0
  | old =>
    show Wf (if x.k ≠ 3 then (x, ([-6] : List Int)) else many { x with rules := oldRules }).1
    split
    · exact w
    · rename_i h
      have h3 : x.k = 3 := by omega
      refine ⟨w.k2, w.k4, ?_, ?_, w.len, w.tot⟩
      · show oldRules.map key = twos x.k
        rw [h3]; decide
      · show ∀ r ∈ oldRules, r.c ≤ r.d ∧ r.d < x.k
        rw [h3]; decide
  | are s =>
    show Wf (if s.length ≠ x.k ∨ 7 < total s then (x, ([-1] : List Int)) else ({ x with stand := s }, [(total s : Int)])).1
    split
    · exact w
    · rename_i h
      exact ⟨w.k2, w.k4, w.keys, w.cd, by show s.length = x.k; omega, by show total s ≤ 7; omega⟩
  | meet a b =>
    show Wf (if x.k ≤ a ∨ x.k ≤ b then (x, ([-1] : List Int)) else if areThere x.stand (ordered a b).1 (ordered a b).2 = false then (x, [-2]) else
      match (Uw78.may x.rules x.stand).find? fun r => r.a == (ordered a b).1 && r.b == (ordered a b).2 with
      | none => (x, [-4])
      | some r => ({ x with stand := behind x.stand r }, Uw78.ints (behind x.stand r))).1
    split
    · exact w
    · split
      · exact w
      · split
        · exact w
        · rename_i r e
          have hm := List.mem_of_find?_eq_some e
          unfold Uw78.may at hm
          rw [List.mem_filter, Bool.and_eq_true] at hm
          have hab := w.ab hm.1
          have hcd := w.cd r hm.1
          refine ⟨w.k2, w.k4, w.keys, w.cd, ?_, ?_⟩
          · show (behind x.stand r).length = x.k
            rw [behind_len, w.len]
          · show total (behind x.stand r) ≤ 7
            rw [behind_total (by rw [w.len]; omega) (by rw [w.len]; omega) (by rw [w.len]; omega) (by rw [w.len]; omega) hm.2.2]
            exact w.tot
  | may => exact w
  | to s => exact w
  | one c => exact w
  | comes => exact w
  | rests => exact w
  | always s => exact w
  | kept m => exact w
end Ch
namespace Ch
open Uw78
theorem twosTo_le {k : Nat} (h4 : k ≤ 4) : ∀ {i : Nat}, i ≤ k → (twosTo k i).length ≤ 16 := by
  intro i hi
  have : ∀ k, k ≤ 4 → ∀ i, i ≤ k → (twosTo k i).length ≤ 16 := by decide
  exact this k h4 i hi
end Ch

end

section
set_option Elab.async false
set_option maxHeartbeats 1000000
namespace Ch
open Uw78
/-! ### a list without doubles is no longer than one that holds it -/
theorem len_erase_in {α : Type} [DecidableEq α] : ∀ {l : List α} {x : α}, x ∈ l → (l.erase x).length + 1 = l.length := by
  intro l x h
  have := List.length_erase_of_mem h
  have : 0 < l.length := List.length_pos_of_mem h
  omega
theorem nodup_len {α : Type} [DecidableEq α] : ∀ {l m : List α}, l.Nodup → (∀ x ∈ l, x ∈ m) → l.length ≤ m.length
  | [], _, _, _ => Nat.zero_le _
  | x :: l, m, hn, h => by
    rw [List.nodup_cons] at hn
    have hx : x ∈ m := h x (List.mem_cons_self)
    have ih := nodup_len (l := l) (m := m.erase x) hn.2 (fun y hy => by
      have hne : y ≠ x := fun e => hn.1 (e ▸ hy)
      exact (List.mem_erase_of_ne hne).mpr (h y (List.mem_cons_of_mem _ hy)))
    have := len_erase_in hx
    show l.length + 1 ≤ m.length
    omega
/-! ### all stands of k colours and n chameleons -/
def stds : Nat → Nat → List Stand
  | 0, 0 => [[]]
  | 0, _ + 1 => []
  | k + 1, n => (List.range (n + 1)).flatMap fun x => (stds k (n - x)).map fun l => x :: l
theorem mem_stds : ∀ {k n : Nat} {s : Stand}, s.length = k → total s = n → s ∈ stds k n
  | 0, n, [], _, h => by
    have h0 : (0 : Nat) = n := h
    subst h0
    exact List.mem_singleton.mpr rfl
  | k + 1, n, x :: s, hl, h => by
    rw [total_cons] at h
    unfold stds
    rw [List.mem_flatMap]
    refine ⟨x, List.mem_range.mpr (by omega), List.mem_map.mpr ⟨s, mem_stds (by simpa using hl) (by omega), rfl⟩⟩
theorem stds_len : ∀ k : Nat, k ≤ 4 → ∀ n : Nat, n ≤ 7 → (stds k n).length ≤ 120 := by decide +kernel
/-! ### the rules and stands that go together -/
structure Ok (k n : Nat) (rs : List Rule) : Prop where
  k4 : k ≤ 4
  n7 : n ≤ 7
  lt : ∀ r ∈ rs, r.a < k ∧ r.b < k ∧ r.c < k ∧ r.d < k
structure Std (k n : Nat) (s : Stand) : Prop where
  len : s.length = k
  tot : total s = n
theorem Wf.ok {x : Island} (w : Wf x) : Ok x.k (total x.stand) x.rules := ⟨w.k4, w.tot, fun r hr => by
  have h1 := w.ab hr
  have h2 := w.cd r hr
  omega⟩
theorem Wf.std {x : Island} (w : Wf x) : Std x.k (total x.stand) x.stand := ⟨w.len, rfl⟩
theorem mem_may {rs : List Rule} {s : Stand} {r : Rule} (h : r ∈ Uw78.may rs s) : r ∈ rs ∧ changes r = true ∧ areThere s r.a r.b = true := by
  unfold Uw78.may at h
  rw [List.mem_filter, Bool.and_eq_true] at h
  exact h
theorem Std.behind {k n : Nat} {rs : List Rule} {s : Stand} (o : Ok k n rs) (h : Std k n s) {r : Rule} (hr : r ∈ Uw78.may rs s) : Std k n (Uw78.behind s r) := by
  obtain ⟨h1, _, h3⟩ := mem_may hr
  obtain ⟨ha, hb, hc, hd⟩ := o.lt r h1
  exact ⟨by rw [behind_len, h.len], by rw [behind_total (by rw [h.len]; exact ha) (by rw [h.len]; exact hb) (by rw [h.len]; exact hc) (by rw [h.len]; exact hd) h3, h.tot]⟩
/-! ### one stand after another, in the order in which they were found -/
def has (l : List Way) (s : Stand) : Bool := l.any fun x => x.stand == s
theorem has_iff {l : List Way} {s : Stand} : has l s = true ↔ s ∈ l.map fun w => w.stand := by
  unfold has
  rw [List.any_eq_true, List.mem_map]
  constructor
  · rintro ⟨w, h, e⟩; exact ⟨w, h, eq_of_beq e⟩
  · rintro ⟨w, h, e⟩; exact ⟨w, h, by rw [e]; exact beq_self_eq_true s⟩
theorem has_append (l m : List Way) (s : Stand) : has (l ++ m) s = (has l s || has m s) := by
  unfold has; rw [List.any_append]
/-- a meeting of w's: the stand behind it is added if it is new -/
def add1 (w : Way) (all : List Way) (r : Rule) : List Way := if has all (behind w.stand r) = true then all else all ++ [⟨behind w.stand r, w.row ++ [(r.a, r.b)]⟩]
def expand (rs : List Rule) (all : List Way) (w : Way) : List Way := (Uw78.may rs w.stand).foldl (add1 w) all
/-- the first i of them gone through -/
def bfs (rs : List Rule) (s : Stand) : Nat → List Way
  | 0 => [⟨s, []⟩]
  | i + 1 => match (bfs rs s i)[i]? with
    | some w => expand rs (bfs rs s i) w
    | none => bfs rs s i
theorem bfs_succ {rs : List Rule} {s : Stand} {i : Nat} {w : Way} (h : (bfs rs s i)[i]? = some w) : bfs rs s (i + 1) = expand rs (bfs rs s i) w := by
  rw [bfs, h]
theorem bfs_end {rs : List Rule} {s : Stand} {i : Nat} (h : (bfs rs s i).length ≤ i) : bfs rs s (i + 1) = bfs rs s i := by
  rw [bfs, List.getElem?_eq_none h]
theorem bfs_stay {rs : List Rule} {s : Stand} {i : Nat} (h : (bfs rs s i).length ≤ i) : ∀ j, bfs rs s (i + j) = bfs rs s i
  | 0 => rfl
  | j + 1 => by
    have ih := bfs_stay h j
    show bfs rs s (i + j + 1) = _
    rw [bfs_end (by rw [ih]; omega), ih]
/-- what is added stands behind what is there -/
theorem add1_pre (w : Way) (all : List Way) (r : Rule) : ∃ m, add1 w all r = all ++ m := by
  unfold add1
  split
  · exact ⟨[], (List.append_nil _).symm⟩
  · exact ⟨_, rfl⟩
theorem fold_pre (w : Way) : ∀ (l : List Rule) (all : List Way), ∃ m, l.foldl (add1 w) all = all ++ m
  | [], all => ⟨[], (List.append_nil _).symm⟩
  | r :: l, all => by
    obtain ⟨m, e⟩ := add1_pre w all r
    obtain ⟨m', e'⟩ := fold_pre w l (add1 w all r)
    exact ⟨m ++ m', by rw [List.foldl_cons, e', e, List.append_assoc]⟩
theorem expand_pre (rs : List Rule) (all : List Way) (w : Way) : ∃ m, expand rs all w = all ++ m := fold_pre w _ all
theorem bfs_pre (rs : List Rule) (s : Stand) (i : Nat) : ∃ m, bfs rs s (i + 1) = bfs rs s i ++ m := by
  cases h : (bfs rs s i)[i]? with
  | none => exact ⟨[], by rw [bfs, h, List.append_nil]⟩
  | some w => rw [bfs_succ h]; exact expand_pre rs _ w
/-- a property of each, kept -/
theorem fold_all {P : Way → Prop} {w : Way} : ∀ {l : List Rule} {all : List Way}, (∀ x ∈ all, P x) → (∀ r ∈ l, P ⟨behind w.stand r, w.row ++ [(r.a, r.b)]⟩) → ∀ x ∈ l.foldl (add1 w) all, P x
  | [], _, h, _ => h
  | r :: l, all, h, hr => by
    rw [List.foldl_cons]
    refine fold_all (l := l) ?_ fun r' h' => hr r' (List.mem_cons_of_mem _ h')
    intro x hx
    unfold add1 at hx
    split at hx
    · exact h x hx
    · rcases List.mem_append.mp hx with hx | hx
      · exact h x hx
      · rw [List.mem_singleton.mp hx]; exact hr r List.mem_cons_self
theorem fold_nd {w : Way} : ∀ {l : List Rule} {all : List Way}, (all.map fun w => w.stand).Nodup → ((l.foldl (add1 w) all).map fun w => w.stand).Nodup
  | [], _, h => h
  | r :: l, all, h => by
    rw [List.foldl_cons]
    refine fold_nd (l := l) ?_
    unfold add1
    split
    · exact h
    · rename_i hn
      rw [List.map_append, List.nodup_append]
      refine ⟨h, by simp, ?_⟩
      intro a ha b hb e
      rw [List.map_singleton, List.mem_singleton] at hb
      rw [e, hb] at ha
      exact hn (has_iff.mpr ha)
theorem bfs_std {k n : Nat} {rs : List Rule} {s : Stand} (o : Ok k n rs) (h : Std k n s) : ∀ i, ∀ w ∈ bfs rs s i, Std k n w.stand
  | 0 => fun w hw => by rw [List.mem_singleton.mp hw]; exact h
  | i + 1 => by
    cases e : (bfs rs s i)[i]? with
    | none => rw [bfs, e]; exact bfs_std o h i
    | some w =>
      rw [bfs_succ e]
      refine fold_all (P := fun w => Std k n w.stand) (bfs_std o h i) fun r hr => ?_
      exact Std.behind o (bfs_std o h i w (List.mem_of_getElem? e)) hr
theorem bfs_nd (rs : List Rule) (s : Stand) : ∀ i, ((bfs rs s i).map fun w => w.stand).Nodup
  | 0 => by simp [bfs]
  | i + 1 => by
    cases e : (bfs rs s i)[i]? with
    | none => rw [bfs, e]; exact bfs_nd rs s i
    | some w => rw [bfs_succ e]; exact fold_nd (bfs_nd rs s i)
theorem bfs_len {k n : Nat} {rs : List Rule} {s : Stand} (o : Ok k n rs) (h : Std k n s) (i : Nat) : (bfs rs s i).length ≤ 120 := by
  have h1 := nodup_len (m := stds k n) (bfs_nd rs s i) (fun x hx => by
    obtain ⟨w, hw, rfl⟩ := List.mem_map.mp hx
    exact mem_stds (bfs_std o h i w hw).len (bfs_std o h i w hw).tot)
  rw [List.length_map] at h1
  exact Nat.le_trans h1 (stds_len k o.k4 n o.n7)
/-! ### the specification's waves are the same -/
/-- a wave, from what is found already -/
theorem wave_eq {rs : List Rule} {all : List Way} : ∀ (l : List Way) (n : List Way),
    all ++ l.foldl (fun n w => (Uw78.may rs w.stand).foldl (fun n r => let s := behind w.stand r
      if (all.map fun w => w.stand).contains s || n.any (fun x => x.stand == s) then n else n ++ [⟨s, w.row ++ [(r.a, r.b)]⟩]) n) n = l.foldl (expand rs) (all ++ n)
  | [], n => rfl
  | w :: l, n => by
    rw [List.foldl_cons, List.foldl_cons, wave_eq l]
    congr 1
    unfold expand
    generalize Uw78.may rs w.stand = ms
    induction ms generalizing n with
    | nil => rfl
    | cons r ms ih =>
      rw [List.foldl_cons, List.foldl_cons, ih]
      congr 1
      unfold add1
      rw [has_append]
      have e : (all.map fun w => w.stand).contains (behind w.stand r) = has all (behind w.stand r) := by
        rw [Bool.eq_iff_iff, has_iff, List.contains_iff_mem]
      show all ++ (if ((all.map fun w => w.stand).contains (behind w.stand r) || has n (behind w.stand r)) = true then n else n ++ [⟨behind w.stand r, w.row ++ [(r.a, r.b)]⟩]) = _
      rw [e]
      split
      · rfl
      · rw [List.append_assoc]
theorem wave_all (rs : List Rule) (all l : List Way) : all ++ wave rs (all.map fun w => w.stand) l = l.foldl (expand rs) all := by
  have := wave_eq (rs := rs) (all := all) l []
  rw [List.append_nil] at this
  exact this
theorem bfs_run {rs : List Rule} {s : Stand} : ∀ (l : List Way) {j : Nat}, (∀ t, t < l.length → ∀ m, (bfs rs s j ++ m)[j + t]? = l[t]?) → l.foldl (expand rs) (bfs rs s j) = bfs rs s (j + l.length)
  | [], j, _ => rfl
  | w :: l, j, h => by
    have h0 := h 0 (by simp) []
    rw [List.append_nil] at h0
    have e : (bfs rs s j)[j]? = some w := h0
    rw [List.foldl_cons, ← bfs_succ e, bfs_run l (j := j + 1) ?_]
    · congr 1
      simp only [List.length_cons]
      omega
    · intro t ht m
      obtain ⟨m', e'⟩ := bfs_pre rs s j
      rw [e', List.append_assoc]
      have := h (t + 1) (by simpa using ht) (m' ++ m)
      rw [show j + 1 + t = j + (t + 1) by omega, this]
      rfl
theorem waves_eq {k n : Nat} {rs : List Rule} {s : Stand} (o : Ok k n rs) (hs : Std k n s) : ∀ (f : Nat) (l : List Way) (j : Nat), j + l.length = (bfs rs s j).length → (bfs rs s j).drop j = l → 120 < f + (bfs rs s j).length →
    ∃ i, waves rs f (bfs rs s j) l = bfs rs s i ∧ (bfs rs s i).length ≤ i
  | 0, l, j, _, _, hf => by have := bfs_len o hs j; omega
  | f + 1, l, j, h1, h2, hf => by
    unfold waves
    cases l with
    | nil => exact ⟨j, rfl, by simp at h1; omega⟩
    | cons w l =>
      show ∃ i, waves rs f (bfs rs s j ++ wave rs ((bfs rs s j).map fun w => w.stand) (w :: l)) (wave rs ((bfs rs s j).map fun w => w.stand) (w :: l)) = bfs rs s i ∧ _
      have e := wave_all rs (bfs rs s j) (w :: l)
      have e2 := bfs_run (rs := rs) (s := s) (w :: l) (j := j) (fun t ht m => by
        rw [List.getElem?_append_left (by omega), ← h2, List.getElem?_drop])
      rw [e2, h1] at e
      generalize hn : wave rs ((bfs rs s j).map fun w => w.stand) (w :: l) = nw at e ⊢
      rw [e]
      by_cases hz : nw = []
      · subst hz
        rw [List.append_nil] at e
        refine ⟨(bfs rs s j).length, ?_, by rw [← e]; omega⟩
        cases f <;> rfl
      · have hlen := congrArg List.length e
        rw [List.length_append] at hlen
        have hpos : 0 < nw.length := List.length_pos_iff.mpr hz
        refine waves_eq o hs f nw (bfs rs s j).length (by omega) (by rw [← e, List.drop_left]) (by omega)
/-- **what can come, found one after another** -/
theorem comes_bfs {k n : Nat} {rs : List Rule} {s : Stand} (o : Ok k n rs) (hs : Std k n s) {i : Nat} (hi : (bfs rs s i).length ≤ i) : Uw78.comes rs s = bfs rs s i := by
  obtain ⟨j, e, hj⟩ := waves_eq o hs 300 [⟨s, []⟩] 0 rfl rfl (by show 120 < 300 + 1; omega)
  have e' : Uw78.comes rs s = bfs rs s j := e
  rw [e']
  rcases Nat.le_total i j with h | h
  · obtain ⟨d, rfl⟩ := Nat.exists_eq_add_of_le h
    rw [bfs_stay hi]
  · obtain ⟨d, rfl⟩ := Nat.exists_eq_add_of_le h
    rw [bfs_stay hj]
theorem bfs_grows {rs : List Rule} {s : Stand} : ∀ i, 1 ≤ (bfs rs s i).length
  | 0 => Nat.le_refl _
  | i + 1 => by
    obtain ⟨m, e⟩ := bfs_pre rs s i
    have := bfs_grows (rs := rs) (s := s) i
    rw [e, List.length_append]; omega
end Ch
namespace Ch
open Uw78
/-- the old rules, the first i of the twos gone through -/
def oldTo : Nat → List Rule
  | 0 => plain 3
  | i + 1 => match (twos 3)[i]? with
    | some p => if p.1 = p.2 then oldTo i else told (oldTo i) p (3 - p.1 - p.2, 3 - p.1 - p.2)
    | none => oldTo i
theorem oldTo_keys : ∀ i, (oldTo i).map key = twos 3
  | 0 => plain_keys 3
  | i + 1 => by
    unfold oldTo
    split
    · split
      · exact oldTo_keys i
      · rw [told_keys]; exact oldTo_keys i
    · exact oldTo_keys i
theorem oldTo_all : oldTo 6 = oldRules := by decide
theorem oldTo_len (i : Nat) : (oldTo i).length ≤ 10 := by
  have h := congrArg List.length (oldTo_keys i)
  rw [List.length_map] at h
  rw [h]; decide
theorem oldTo_eq {i : Nat} {p : Nat × Nat} (h : (twos 3)[i]? = some p) (e : p.1 = p.2) : oldTo (i + 1) = oldTo i := by
  rw [oldTo, h]; exact if_pos e
theorem oldTo_ne {i : Nat} {p : Nat × Nat} (h : (twos 3)[i]? = some p) (e : ¬ p.1 = p.2) : oldTo (i + 1) = told (oldTo i) p (3 - p.1 - p.2, 3 - p.1 - p.2) := by
  rw [oldTo, h]; exact if_neg e
/-- colours taken away one after another -/
theorem fold_take {α β : Type} (f : β → α → β) {l : List α} {i : Nat} {c : α} (h : l[i]? = some c) (b : β) : (l.take (i + 1)).foldl f b = f ((l.take i).foldl f b) c := by
  rw [List.take_add_one, h]
  rw [List.foldl_append]
  rfl
theorem fold_less_len : ∀ (cs : List Nat) (s : Stand), (cs.foldl less s).length = s.length
  | [], _ => rfl
  | c :: cs, s => by rw [List.foldl_cons, fold_less_len cs, less_len]
theorem fold_more_len : ∀ (cs : List Nat) (s : Stand), (cs.foldl more s).length = s.length
  | [], _ => rfl
  | c :: cs, s => by rw [List.foldl_cons, fold_more_len cs, more_len]
theorem changes_iff (r : Rule) : changes r = !(decide (r.c = r.a) && decide (r.d = r.b)) := by
  unfold changes
  by_cases h1 : r.c = r.a
  · rw [h1]; by_cases h2 : r.d = r.b
    · rw [h2]; simp
    · simp [h2, bne]
  · simp [h1, bne]
end Ch

end

section
set_option Elab.async false
set_option maxHeartbeats 1000000
/-! What can come, as a relation. -/
namespace Ch
open Uw78
theorem leads_snoc {rs : List Rule} {s t : Stand} {l : List (Nat × Nat)} (h : Leads rs s l t) {r : Rule} (hr : r ∈ Uw78.may rs t) : Leads rs s (l ++ [(r.a, r.b)]) (Uw78.behind t r) := by
  induction h with
  | none s => exact .more s _ r [] hr (.none _)
  | more s t r' l h1 h2 ih => exact .more s _ r' _ h1 (ih hr)
theorem leads_trans {rs : List Rule} {s t u : Stand} {l m : List (Nat × Nat)} (h : Leads rs s l t) (h2 : Leads rs t m u) : Leads rs s (l ++ m) u := by
  induction h with
  | none s => exact h2
  | more s t r' l h1 _ ih => exact .more s _ r' _ h1 (ih h2)
/-- each way leads to its stand -/
theorem bfs_leads {rs : List Rule} {s : Stand} : ∀ i, ∀ w ∈ bfs rs s i, Leads rs s w.row w.stand
  | 0 => fun w hw => by rw [List.mem_singleton.mp hw]; exact .none s
  | i + 1 => by
    cases e : (bfs rs s i)[i]? with
    | none => rw [bfs, e]; exact bfs_leads i
    | some w =>
      rw [bfs_succ e]
      exact fold_all (P := fun w => Leads rs s w.row w.stand) (bfs_leads i) fun r hr => leads_snoc (bfs_leads i w (List.mem_of_getElem? e)) hr
theorem add1_has (w : Way) (all : List Way) (r : Rule) : has (add1 w all r) (Uw78.behind w.stand r) = true := by
  unfold add1
  split
  · assumption
  · exact has_iff.mpr (List.mem_map.mpr ⟨⟨Uw78.behind w.stand r, w.row ++ [(r.a, r.b)]⟩, List.mem_append_right _ (List.mem_singleton.mpr rfl), rfl⟩)
theorem fold_has_old (w : Way) (l : List Rule) (all : List Way) {t : Stand} (h : has all t = true) : has (l.foldl (add1 w) all) t = true := by
  obtain ⟨m, e⟩ := fold_pre w l all
  rw [e, has_append, h, Bool.true_or]
theorem fold_has (w : Way) : ∀ (l : List Rule) (all : List Way) {r : Rule}, r ∈ l → has (l.foldl (add1 w) all) (Uw78.behind w.stand r) = true
  | r0 :: l, all, r, h => by
    rw [List.foldl_cons]
    rcases List.mem_cons.mp h with rfl | h
    · exact fold_has_old w l _ (add1_has w all r)
    · exact fold_has w l _ h
/-- what was gone through has its successors in the list -/
theorem bfs_closed {rs : List Rule} {s : Stand} : ∀ i j w, j < i → (bfs rs s i)[j]? = some w → ∀ r ∈ Uw78.may rs w.stand, has (bfs rs s i) (Uw78.behind w.stand r) = true
  | 0, j, w, hj, _, r, hr => by omega
  | i + 1, j, w, hj, hw, r, hr => by
    obtain ⟨m, e⟩ := bfs_pre rs s i
    by_cases hji : j < i
    · by_cases hl : j < (bfs rs s i).length
      · rw [e, List.getElem?_append_left hl] at hw
        rw [e, has_append, bfs_closed i j w hji hw r hr, Bool.true_or]
      · have e2 := bfs_end (rs := rs) (s := s) (i := i) (by omega)
        rw [e2, List.getElem?_eq_none (by omega)] at hw
        cases hw
    · have : j = i := by omega
      subst this
      by_cases hl : j < (bfs rs s j).length
      · rw [e, List.getElem?_append_left hl] at hw
        rw [bfs_succ hw]
        exact fold_has w _ _ hr
      · have e2 := bfs_end (rs := rs) (s := s) (i := j) (by omega)
        rw [e2, List.getElem?_eq_none (by omega)] at hw
        cases hw
theorem bfs_first {rs : List Rule} {s : Stand} : ∀ i, (bfs rs s i)[0]? = some ⟨s, []⟩
  | 0 => rfl
  | i + 1 => by
    obtain ⟨m, e⟩ := bfs_pre rs s i
    rw [e, List.getElem?_append_left (bfs_grows i)]
    exact bfs_first i
theorem bfs_all {rs : List Rule} {s : Stand} {i : Nat} (hi : (bfs rs s i).length ≤ i) {u t : Stand} {l : List (Nat × Nat)} (h : Leads rs u l t) : has (bfs rs s i) u = true → has (bfs rs s i) t = true := by
  induction h with
  | none s => exact id
  | more u t r l h1 _ ih =>
    intro hu
    refine ih ?_
    obtain ⟨w, hw, e⟩ := List.mem_map.mp (has_iff.mp hu)
    obtain ⟨j, hj, ej⟩ := List.mem_iff_getElem.mp hw
    have := bfs_closed (rs := rs) (s := s) i j w (by omega) (List.getElem?_eq_some_iff.mpr ⟨hj, ej⟩) r (by rw [e]; exact h1)
    rw [e] at this
    exact this
/-- the search comes to its end -/
theorem bfs_ends {k n : Nat} {rs : List Rule} {s : Stand} (o : Ok k n rs) (hs : Std k n s) : (bfs rs s 120).length ≤ 120 := bfs_len o hs 120
theorem comes_end {k n : Nat} {rs : List Rule} {s : Stand} (o : Ok k n rs) (hs : Std k n s) : Uw78.comes rs s = bfs rs s 120 := comes_bfs o hs (bfs_ends o hs)
/-- **what can come** -/
theorem comes_iff {k n : Nat} {rs : List Rule} {s t : Stand} (o : Ok k n rs) (hs : Std k n s) : has (Uw78.comes rs s) t = true ↔ ∃ l, Leads rs s l t := by
  rw [comes_end o hs]
  constructor
  · intro h
    obtain ⟨w, hw, rfl⟩ := List.mem_map.mp (has_iff.mp h)
    exact ⟨w.row, bfs_leads 120 w hw⟩
  · rintro ⟨l, h⟩
    refine bfs_all (bfs_ends o hs) h ?_
    exact has_iff.mpr (List.mem_map.mpr ⟨_, List.mem_of_getElem? (bfs_first 120), rfl⟩)
theorem comes_std {k n : Nat} {rs : List Rule} {s : Stand} (o : Ok k n rs) (hs : Std k n s) : ∀ w ∈ Uw78.comes rs s, Std k n w.stand := by
  rw [comes_end o hs]; exact bfs_std o hs 120
theorem comes_nd {k n : Nat} {rs : List Rule} {s : Stand} (o : Ok k n rs) (hs : Std k n s) : ((Uw78.comes rs s).map fun w => w.stand).Nodup := by
  rw [comes_end o hs]; exact bfs_nd rs s 120
theorem comes_len {k n : Nat} {rs : List Rule} {s : Stand} (o : Ok k n rs) (hs : Std k n s) : (Uw78.comes rs s).length ≤ 120 := by
  rw [comes_end o hs]; exact bfs_ends o hs
theorem wayTo_isSome {k n : Nat} {rs : List Rule} {s t : Stand} (o : Ok k n rs) (hs : Std k n s) : (wayTo rs s t).isSome = true ↔ ∃ l, Leads rs s l t := by
  rw [← comes_iff o hs]
  unfold wayTo has
  rw [List.find?_isSome, List.any_eq_true]
/-- **always**, by the relation -/
theorem always_iff {k n : Nat} {rs : List Rule} {s t : Stand} (o : Ok k n rs) (hs : Std k n s) : Uw78.always rs s t = true ↔ ∀ u, (∃ l, Leads rs s l u) → ∃ l, Leads rs u l t := by
  unfold Uw78.always
  rw [List.all_eq_true]
  constructor
  · intro h u hu
    obtain ⟨w, hw, rfl⟩ := List.mem_map.mp (has_iff.mp ((comes_iff o hs).mpr hu))
    exact (wayTo_isSome o (comes_std o hs w hw)).mp (h w hw)
  · intro h w hw
    exact (wayTo_isSome o (comes_std o hs w hw)).mpr (h w.stand ((comes_iff o hs).mp (has_iff.mpr (List.mem_map.mpr ⟨w, hw, rfl⟩))))
/-- ways are no longer than there are stands -/
theorem bfs_row {rs : List Rule} {s : Stand} : ∀ (i j : Nat) (w : Way), (bfs rs s i)[j]? = some w → w.row.length ≤ j
  | 0, j, w, h => by
    match j, h with
    | 0, h => cases h; exact Nat.le_refl _
  | i + 1, j, w, h => by
    cases e : (bfs rs s i)[i]? with
    | none => rw [bfs, e] at h; exact bfs_row i j w h
    | some v =>
      rw [bfs_succ e] at h
      have hv := bfs_row i i v e
      have hi : i < (bfs rs s i).length := (List.getElem?_eq_some_iff.mp e).1
      have key : ∀ (l : List Rule) (all : List Way), i < all.length → (∀ (j : Nat) (w : Way), all[j]? = some w → w.row.length ≤ j) → ∀ (j : Nat) (w : Way), (l.foldl (add1 v) all)[j]? = some w → w.row.length ≤ j := by
        intro l
        induction l with
        | nil => intro all _ h j w e; exact h j w e
        | cons r l ih =>
          intro all hl h j w e
          rw [List.foldl_cons] at e
          refine ih (add1 v all r) ?_ ?_ j w e
          · obtain ⟨m, e⟩ := add1_pre v all r
            rw [e, List.length_append]; omega
          · intro j w e
            unfold add1 at e
            split at e
            · exact h j w e
            · by_cases hj : j < all.length
              · rw [List.getElem?_append_left hj] at e; exact h j w e
              · rw [List.getElem?_append_right (by omega)] at e
                have : j - all.length = 0 := by
                  rcases Nat.eq_zero_or_pos (j - all.length) with q | q
                  · exact q
                  · rw [List.getElem?_eq_none (by simp; omega)] at e; cases e
                rw [this] at e
                cases e
                show (v.row ++ [(r.a, r.b)]).length ≤ j
                rw [List.length_append, List.length_singleton]; omega
      exact key _ _ hi (bfs_row i) j w h
end Ch

end

section
set_option Elab.async false
set_option maxHeartbeats 1000000
/-! What stage 2's calls answer, told as the program finds it. -/
namespace Ch
open Uw78
theorem allOf_eq (k n c : Nat) : allOf k n c = (List.replicate k 0).set c n := by
  unfold allOf
  refine List.ext_getElem (by simp) fun i h1 h2 => ?_
  rw [List.getElem_map, List.getElem_range, List.getElem_set, List.getElem_replicate]
  by_cases h : i = c
  · rw [if_pos h, if_pos h.symm]
  · rw [if_neg h, if_neg (fun q => h q.symm)]
/-! ### rows of weights -/
theorem rows_snoc (m : Nat) : ∀ n, rows m (n + 1) = (rows m n).flatMap fun l => (List.range m).map fun x => l ++ [x]
  | 0 => by
    show ((List.range m).flatMap fun x => [[x]]) = ([[]] : List (List Nat)).flatMap fun l => (List.range m).map fun x => l ++ [x]
    rw [List.flatMap_singleton]
    induction List.range m with
    | nil => rfl
    | cons a l ih => rw [List.flatMap_cons, ih, List.map_cons]; rfl
  | n + 1 => by
    have ih := rows_snoc m n
    show ((List.range m).flatMap fun x => (rows m (n + 1)).map fun l => x :: l) = ((List.range m).flatMap fun x => (rows m n).map fun l => x :: l).flatMap fun l => (List.range m).map fun x => l ++ [x]
    rw [List.flatMap_assoc, ih]
    congr 1
    funext x
    rw [List.map_flatMap, List.flatMap_map]
    congr 1
    funext l
    rw [List.map_map]
    rfl
theorem rows_len (m : Nat) : ∀ n, (rows m n).length = m ^ n
  | 0 => rfl
  | n + 1 => by
    have e : ∀ (l : List (List Nat)), (l.flatMap fun l => (List.range m).map fun x => l ++ [x]).length = l.length * m := fun l => by
      induction l with
      | nil => simp
      | cons a l ih => rw [List.flatMap_cons, List.length_append, ih, List.length_map, List.length_range, List.length_cons, Nat.succ_mul, Nat.add_comm]
    rw [rows_snoc, e, rows_len m n, Nat.pow_succ]
theorem rows_small {m n : Nat} (hm : m ≤ 9) (hn : n ≤ 4) : (rows m n).length ≤ 6561 := by
  rw [rows_len]
  calc m ^ n ≤ 9 ^ n := Nat.pow_le_pow_left hm n
    _ ≤ 9 ^ 4 := Nat.pow_le_pow_right (by decide) hn
    _ = 6561 := by decide
theorem mem_rows {m : Nat} : ∀ {n : Nat} {l : List Nat}, l ∈ rows m n → l.length = n ∧ ∀ x ∈ l, x < m
  | 0, l, h => by rw [List.mem_singleton.mp h]; exact ⟨rfl, fun x hx => by cases hx⟩
  | n + 1, l, h => by
    obtain ⟨x, hx, h⟩ := List.mem_flatMap.mp h
    obtain ⟨r, hr, rfl⟩ := List.mem_map.mp h
    obtain ⟨h1, h2⟩ := mem_rows hr
    refine ⟨by rw [List.length_cons, h1], fun y hy => ?_⟩
    rcases List.mem_cons.mp hy with rfl | hy
    · exact List.mem_range.mp hx
    · exact h2 y hy
theorem alike_iff {w : List Nat} {lo hi : Nat} (h1 : lo ∈ w) (h2 : ∀ y ∈ w, lo ≤ y) (h3 : hi ∈ w) (h4 : ∀ y ∈ w, y ≤ hi) : areAlike w = decide (lo = hi) := by
  by_cases e : lo = hi
  · rw [decide_eq_true e]
    unfold areAlike
    rw [List.all_eq_true]
    have all : ∀ y ∈ w, y = lo := fun y hy => by have := h2 y hy; have := h4 y hy; omega
    intro y hy
    cases w with
    | nil => cases hy
    | cons a r =>
      show (y == a) = true
      rw [all y hy, all a List.mem_cons_self, beq_self_eq_true]
  · rw [decide_eq_false e]
    cases q : areAlike w with
    | false => rfl
    | true =>
      unfold areAlike at q
      rw [List.all_eq_true] at q
      exact absurd ((eq_of_beq (q lo h1)).trans (eq_of_beq (q hi h3)).symm) e
theorem find_filter {α : Type} (p : α → Bool) (l : List α) : (l.filter p)[0]? = l.find? p := by
  rw [← List.head?_eq_getElem?, List.head?_filter]
/-! ### the first of some stands -/
theorem lower_self : ∀ l : List Nat, lower l l = false
  | [] => rfl
  | a :: l => by
    show (decide (a < a) || (a == a && lower l l)) = false
    rw [lower_self l, Bool.and_false, Bool.or_false]
    exact decide_eq_false (Nat.lt_irrefl a)
theorem best_fold {l : List Stand} (h0 : 0 < l.length) (ab : Nat → Nat) (e0 : ab 0 = 0) (es : ∀ k, k + 1 < l.length → ab (k + 1) = if lower (l.getD (k + 1) []) (l.getD (ab k) []) = true then k + 1 else ab k) :
    ∀ j, j < l.length → l.getD (ab j) [] = (l.take (j + 1)).foldl (fun m x => if lower x m = true then x else m) (l.headD [])
  | 0, _ => by
    cases l with
    | nil => cases h0
    | cons a r =>
      rw [e0]
      show a = if lower a a = true then a else a
      rw [ite_self]
  | j + 1, hj => by
    have ih := best_fold h0 ab e0 es j (by omega)
    have hg : l[j + 1]? = some (l.getD (j + 1) []) := by rw [List.getD_eq_getElem?_getD, List.getElem?_eq_getElem hj]; rfl
    rw [fold_take _ hg, ← ih, es j hj]
    split <;> rfl
theorem best_first {l : List Stand} (h0 : 0 < l.length) (ab : Nat → Nat) (e0 : ab 0 = 0) (es : ∀ k, k + 1 < l.length → ab (k + 1) = if lower (l.getD (k + 1) []) (l.getD (ab k) []) = true then k + 1 else ab k) :
    l.getD (ab (l.length - 1)) [] = firstOf l := by
  rw [best_fold h0 ab e0 es (l.length - 1) (by omega), show l.length - 1 + 1 = l.length by omega, List.take_length]
  rfl
/-! ### always, told by going back -/
def edges (rs : List Rule) (l : List Stand) : List (Stand × Stand) := l.flatMap fun u => (Uw78.may rs u).map fun r => (u, Uw78.behind u r)
theorem mem_edges {rs : List Rule} {l : List Stand} {u v : Stand} : (u, v) ∈ edges rs l ↔ u ∈ l ∧ ∃ r ∈ Uw78.may rs u, Uw78.behind u r = v := by
  unfold edges
  rw [List.mem_flatMap]
  constructor
  · rintro ⟨u', hu, h⟩
    obtain ⟨r, hr, e⟩ := List.mem_map.mp h
    cases e
    exact ⟨hu, r, hr, rfl⟩
  · rintro ⟨hu, r, hr, rfl⟩
    exact ⟨u, hu, List.mem_map.mpr ⟨r, hr, rfl⟩⟩
theorem edges_take {rs : List Rule} {l : List Stand} {i : Nat} {u : Stand} (h : l[i]? = some u) : edges rs (l.take (i + 1)) = edges rs (l.take i) ++ (Uw78.may rs u).map fun r => (u, Uw78.behind u r) := by
  unfold edges
  rw [List.take_add_one, h, List.flatMap_append]
  show _ ++ ((Uw78.may rs u).map (fun r => (u, Uw78.behind u r)) ++ []) = _
  rw [List.append_nil]
theorem edges_len {rs : List Rule} (hr : rs.length ≤ 10) : ∀ l : List Stand, (edges rs l).length ≤ 10 * l.length
  | [] => Nat.le_refl _
  | u :: l => by
    have ih := edges_len hr l
    have h1 := List.length_filter_le (fun r => changes r && areThere u r.a r.b) rs
    have h2 : (edges rs (u :: l)).length = (Uw78.may rs u).length + (edges rs l).length := by
      unfold edges
      rw [List.flatMap_cons, List.length_append, List.length_map]
    have h3 : (Uw78.may rs u).length ≤ rs.length := h1
    rw [h2, List.length_cons]
    omega
theorem always_no {k n : Nat} {rs : List Rule} {s t : Stand} (o : Ok k n rs) (hs : Std k n s) (h : has (Uw78.comes rs s) t = false) : Uw78.always rs s t = false := by
  cases e : Uw78.always rs s t with
  | false => rfl
  | true =>
    have := (comes_iff o hs).mpr ((always_iff o hs).mp e s ⟨[], .none s⟩)
    rw [h] at this; cases this
theorem always_back {k n : Nat} {rs : List Rule} {s t : Stand} (o : Ok k n rs) (hs : Std k n s) {L : List Stand} (nd : L.Nodup) (h1 : ∀ u ∈ L, u ∈ (Uw78.comes rs s).map (fun w => w.stand) ∧ ∃ l, Leads rs u l t) (h2 : t ∈ L)
    (h3 : ∀ v ∈ L, ∀ u, (u, v) ∈ edges rs ((Uw78.comes rs s).map fun w => w.stand) → u ∈ L) : L.length = (Uw78.comes rs s).length ↔ Uw78.always rs s t = true := by
  have sub : ∀ u ∈ L, u ∈ (Uw78.comes rs s).map (fun w => w.stand) := fun u hu => (h1 u hu).1
  have le := nodup_len nd sub
  rw [List.length_map] at le
  rw [always_iff o hs]
  constructor
  · intro e u hu
    have hw : u ∈ (Uw78.comes rs s).map (fun w => w.stand) := has_iff.mp ((comes_iff o hs).mpr hu)
    by_cases hL : u ∈ L
    · exact (h1 u hL).2
    · have := nodup_len (l := u :: L) (List.nodup_cons.mpr ⟨hL, nd⟩) (m := (Uw78.comes rs s).map fun w => w.stand) (fun x hx => by
        rcases List.mem_cons.mp hx with rfl | hx
        · exact hw
        · exact sub x hx)
      rw [List.length_map, List.length_cons] at this
      omega
  · intro ha
    have all : ∀ {u l}, Leads rs u l t → u ∈ (Uw78.comes rs s).map (fun w => w.stand) → u ∈ L := fun {u l} h => by
      induction h with
      | none u => intro _; exact h2
      | more u t' r l hr _ ih =>
        intro hw
        obtain ⟨l0, h0⟩ := (comes_iff o hs).mp (has_iff.mpr hw)
        have hb := has_iff.mp ((comes_iff o hs).mpr ⟨_, leads_snoc h0 hr⟩)
        exact h3 _ (ih h1 h2 ha hb) u (mem_edges.mpr ⟨hw, r, hr, rfl⟩)
    have ge := nodup_len (comes_nd o hs) (m := L) (fun u hu => by
      obtain ⟨l, h⟩ := ha u ((comes_iff o hs).mp (has_iff.mpr hu))
      exact all h hu)
    rw [List.length_map] at ge
    omega
theorem has_find (s : Stand) : ∀ ws : List Way, has ws s = (ws.find? fun w => w.stand == s).isSome
  | [] => rfl
  | w :: ws => by
    show (w.stand == s || has ws s) = _
    rw [List.find?_cons, has_find s ws]
    cases w.stand == s <;> rfl
theorem find_of_nd : ∀ {ws : List Way}, (ws.map fun w => w.stand).Nodup → ∀ {w : Way}, w ∈ ws → ws.find? (fun v => v.stand == w.stand) = some w
  | [], _, _, h => by cases h
  | v :: ws, nd, w, h => by
    rw [List.map_cons, List.nodup_cons] at nd
    rw [List.find?_cons]
    rcases List.mem_cons.mp h with rfl | h
    · rw [beq_self_eq_true]
    · have e : (v.stand == w.stand) = false := beq_eq_false_iff_ne.mpr fun q => nd.1 (List.mem_map.mpr ⟨w, h, q.symm⟩)
      rw [e]
      exact find_of_nd nd.2 h
theorem isStand_std {x : Island} (w : Wf x) {s : Stand} (h : isStand x s = true) : Std x.k (total x.stand) s := by
  unfold isStand at h
  rw [Bool.and_eq_true] at h
  exact ⟨eq_of_beq h.1, eq_of_beq h.2⟩
end Ch

end

section
set_option Elab.async false
set_option linter.all false
set_option maxRecDepth 100000
set_option maxHeartbeats 4000000
/-! Rules beside the layer's: list.extend of a tuple; for k, v in d.items() where d's keys are tuples. -/
namespace L2
open PySem PySem.Spec PyProof.Rows
section
open PySem.AutoSeq1 (wpAny_loadPart')
theorem meets_extendT (l b : Addr) (xs ys : Array Value) (n m : Nat) (dd : Option Addr) (sl : Array (Option Value)) (h0 : ¬(!xs.isEmpty && Builtin.List.listTooLong (xs.size + ys.size)) = true) (h1 : xs.size ≤ sizeLine) (h2 : xs.size + ys.size ≤ sizeLine + 1) :
    Meets (Builtin.«list.extend» ⟨[.ref l, .ref b], []⟩) (fun _ R s => s.heap.get? l = some { cls := .type "list", data := .seq xs n } ∧ s.heap.get? b = some { cls := .type "tuple", dict := dd, data := .seq ys m, slots := sl } ∧
      R (.ok (.ret Value.none)) { s with heap := s.heap.update l (Obj.mapSeq fun x => x ++ ys), toks := s.toks }) :=
  .of_wp fun prog w A R s z => by
    obtain ⟨hp, g, d, tk, os⟩ := s
    obtain ⟨hl, hb, z⟩ := z
    have f1 := AutoSeq1.idx_int
    have f2 := AutoSeq1.sub_tuple_tuple
    have f3 := AutoSeq1.sub_list_list
    have f4 := AutoSeq1.sub_tuple_list
    have f5 := AutoSeq1.sub_list_tuple
    have h3 : (xs ++ ys).size ≤ sizeLine + 1 := by rw [Array.size_append]; exact h2
    wp_walk using (wpAny_updateSeq hl rfl (hz := h1) (_hz' := h3)), wpAny_loadPart' hl, wpAny_loadPart' hb
    exact ⟨_, rfl, z⟩
end
section
variable {X : Cx}
/-- xs.extend(t), t a tuple -/
def rExtendT (K : PySem.W.Frag) : V → List V → Hp → VK → Prop := fun x vs H Q => ∃ l b xs zs, x = .ref l ∧ vs = [.ref b] ∧ H l = some (.lst xs) ∧ SqT K H b zs ∧ xs.length + zs.length ≤ sizeLine ∧ Q .non (upd H l (.lst (xs ++ zs)))
theorem mt_extendT : MtM X "list.extend" (rExtendT X.K) := by
  intro pins s σ H x vs v us Q I rx rv h
  obtain ⟨l, b, xs, zs, rfl, rfl, hH, hB, hz, q⟩ := h
  cases rx
  obtain ⟨u, rfl, ru⟩ := rv.one
  cases ru
  obtain ⟨z, its, n, r, hl, e⟩ := I.lstM hH
  obtain ⟨its2, r2, ⟨⟨cls, dd, data, sl⟩, e2, hc, m, hd⟩, z2⟩ := I.tuple hB
  simp only at hc hd
  subst hc hd
  have hl2 : zs.length = its2.length := r2.length
  have hsz : its.toArray.size + its2.toArray.size ≤ sizeLine := by rw [List.size_toArray, List.size_toArray]; omega
  have hlong : ¬ (!its.toArray.isEmpty && Builtin.List.listTooLong (its.toArray.size + its2.toArray.size)) = true := by
    rw [notLongL hsz, Bool.and_false]
    exact Bool.false_ne_true
  refine call_meets F.slot_list_extend ⟨_, e, rfl⟩ F.entry_list_extend (F.args_list_extend_2 _ _)
    (meets_extendT l b its.toArray its2.toArray n m dd sl hlong (by rw [List.size_toArray]; omega) (by omega)) ⟨e, e2, ?_⟩
  refine ⟨.non, _, I.lset (its' := its ++ its2) hH e (by simp) (r.append r2) ?_, rfl, q⟩
  rw [List.length_append]
  omega
end
/-! ### items of any exact dict, by its entries -/
section
variable {prog : Program} {w : World} {A : Around} {E : Value → Shared → Prop} {s : Shared}
theorem meets_itemsR (d : Addr) (hd : (d == sysModules) = false) :
    MeetsIn prog w (Builtin.«dict.items» ⟨[.ref d], []⟩) (fun _ R s => s.TypeIs (.ref d) "dict" ∧
      R (.ok (.ret (.ref s.heap.objs.size))) { s with heap := s.heap.push { cls := .type "dict_items", data := .fields #[.ref d] } }) :=
  .of_wp fun A R s ⟨ty, z⟩ => by
    unfold Builtin.«dict.items»
    refine wpAny_bind ?_
    unfold Builtin.Dict.noArgs
    refine wpAny_bind (wpAny_notOrdered_dict ty ?_)
    show wpAny _ _ (pure d) _ _ s
    refine wpAny_pure ?_
    show wpAny _ _ (Builtin.Dict.showsAll d >>= _) _ _ s
    unfold Builtin.Dict.showsAll
    rw [if_neg (by rw [hd]; exact Bool.false_ne_true)]
    refine wpAny_bind (wpAny_pure ?_)
    exact wpAny_bind (wpAny_newObj_type (wpAny_pure ⟨_, rfl, z⟩))
theorem iter_itemsR {v d : Addr} {od : Obj} {es : Array DictEntry} {ep : Nat} {Q : Value → Shared → Prop} (hv : s.heap.IsItemsView v d) (gd : s.heap.get? d = some od) (dt : od.data = .dict es ep) (small : es.size ≤ sizeLine)
    (z : Q (.ref s.heap.objs.size) { s with heap := s.heap.push { cls := .type "dict_itemiterator", data := .fields #[.none, .bool false, .ref d, .int 0 0, .int es.size 0, .int ep 0, .none, .none] } }) :
    wpAny (model prog w) A (pyIter (.ref v)) Q E s := by
  obtain ⟨ov, hov, hcv, hdv⟩ := id hv
  refine wpAny_pyIter_slot hv.typeIs F.slot_dict_items_iter (wpAny_call_entry F.slot_dict_items_iter hv.typeIs F.entry_dict_items_iter ?_ (F.args_dict_items_iter_1 _))
  unfold Builtin.«dict_items.__iter__»
  refine wpAny_bind (wpAny_pure ?_)
  refine wpAny_bind ?_
  unfold Builtin.Dict_items.dictOf
  refine wpAny_bind (wpAny_field hov hdv (x := .ref d) rfl (wpAny_pure ?_))
  refine wpAny_bind ?_
  unfold Builtin.Dict_items.newIterator
  refine wpAny_bind (wpAny_dictEntries gd dt ?_)
  refine wpAny_bind (wpAny_dictEpoch gd dt ?_)
  have own : Builtin.Dict_items.ownsTuple "dict_itemiterator" = true := by decide
  simp only [own, if_true]
  refine wpAny_newObj_type (wpAny_pure ⟨_, rfl, "dict_itemiterator", _, ⟨_, Heap.get?_push_size _ rfl, rfl⟩, F.slot_dict_itemiterator_next.lookup, ?_⟩)
    (by simp only [sizeOk, Builtin.Dict_items.ownedTupleFields, List.size_toArray, List.length_append, List.length_cons, List.length_nil, sizeLine_eq]; omega)
  simpa [rawInt, Builtin.Dict_items.ownedTupleFields] using z
theorem next_itemR {it d : Addr} {i N ep : Nat} {od : Obj} {es : Array DictEntry} {en : DictEntry} {k0 v0 : Value} {Q : Option Value → Shared → Prop} (st : IsItemIter s.heap it d i N ep k0 v0)
    (gd : s.heap.get? d = some od) (dt : od.data = .dict es ep) (sz : es.size = N) (hx : es[i]? = some en)
    (z : ∀ h', IsItemIterOut h' it d (i + 1) N ep en.key en.val s.heap.objs.size →
      h'.get? s.heap.objs.size = some { cls := .type "tuple", data := .seq #[en.key, en.val] } → h'.objs.size = s.heap.objs.size + 1 →
      (∀ b o, b ≠ it → s.heap.get? b = some o → h'.get? b = some o) → Q (some (.ref s.heap.objs.size)) { s with heap := h' }) :
    wpAny (model prog w) A (pyNext (.ref it)) Q E s := by
  obtain ⟨hp, g, dr, tk, os⟩ := s
  have ty : Shared.TypeIs ⟨hp, g, dr, tk, os⟩ (.ref it) "dict_itemiterator" := ⟨_, st, rfl⟩
  unfold pyNext
  refine wpAny_bind (wpAny_attempt (wpAny_callSpecial?_slot (name := Str.ofString "__next__") ty F.slot_dict_itemiterator_next
    (wpAny_call_entry F.slot_dict_itemiterator_next ty F.entry_dict_itemiterator_next ?_ (F.args_dict_itemiterator_next_1 _))))
  refine wpAny_bind (wpAny_pure ?_)
  refine wpAny_bind ?_
  refine wpAny_bind ?_
  first | refine wpAny_bind (wpAny_typeNameOfWhole_itemiter ty (wpAny_pure ?_)) | refine wpAny_bind (wpAny_typeNameOf_itemiter ty (wpAny_pure ?_))
  refine wpAny_bind (wpAny_fieldsOf st rfl ?_)
  have own : Builtin.Dict_items.ownsTuple "dict_itemiterator" = true := by decide
  simp only [own, if_true]
  show wpAny _ _ (if (Value.ref d == Value.none) = true then _ else _) _ _ _
  rw [if_neg (show ¬ ((Value.ref d == Value.none) = true) from Bool.false_ne_true)]
  refine wpAny_bind (wpAny_pure ?_)
  refine wpAny_bind (wpAny_dictEntries gd dt ?_)
  rw [if_neg (by rw [sz]; simp)]
  refine wpAny_bind (wpAny_pure ?_)
  refine wpAny_bind (wpAny_dictEpoch gd dt ?_)
  rw [if_neg (by simp)]
  refine wpAny_pure ?_
  obtain ⟨lt, hen⟩ := Array.getElem?_eq_some_iff.mp hx
  simp only [show ¬ ((i : Int) < 0) from by omega, if_false, Int.toNat_natCast, Array.getElem?_eq_getElem lt]
  refine wpAny_bind ?_
  first | refine wpAny_bind (wpAny_typeNameOfWhole_itemiter ty (wpAny_pure ?_)) | refine wpAny_bind (wpAny_typeNameOf_itemiter ty (wpAny_pure ?_))
  refine wpAny_bind (wpAny_isOneOf_itemiter ty ?_)
  show wpAny _ _ (setField (.ref it) 3 (rawInt ((i : Int) + 1)) >>= _) _ _ ⟨hp, g, dr, tk, os⟩
  refine wpAny_bind (wpAny_setField_rec st (by simp) fun h1 e1 s1 => ?_)
  replace s1 : Heap.SameBut it hp h1 := s1
  replace e1 : IsItemIter h1 it d (i + 1) N ep k0 v0 := by
    have e : ((i + 1 : Nat) : Int) = (i : Int) + 1 := by omega
    unfold IsItemIter; rw [e]; simpa [rawInt] using e1
  have ty1 : Shared.TypeIs ⟨h1, g, dr, tk, os⟩ (.ref it) "dict_itemiterator" := ⟨_, e1, rfl⟩
  refine wpAny_bind (wpAny_holding ?_)
  refine wpAny_bind (wpAny_isOneOf_itemiter ty1 ?_)
  refine wpAny_bind (wpAny_isOneOf_itemiter ty1 ?_)
  show wpAny _ _ (Builtin.Dict_items.pairFromOwner (.ref it) 6 es[i].key es[i].val) _ _ ⟨h1, g, dr, tk, os⟩
  rw [hen]
  unfold Builtin.Dict_items.pairFromOwner
  refine wpAny_bind (wpAny_newTuple ?_)
  have e2 : IsItemIter (h1.push { cls := .type "tuple", data := .seq #[en.key, en.val] }) it d (i + 1) N ep k0 v0 := Heap.get?_push_of_some _ e1
  generalize hh2 : h1.push { cls := .type "tuple", data := .seq #[en.key, en.val] } = h2 at e2
  have z1 : h1.objs.size = hp.objs.size := s1.1
  have il : it < hp.objs.size := Heap.lt_size st
  have t2 : h2.get? hp.objs.size = some { cls := .type "tuple", data := .seq #[en.key, en.val] } := by rw [← hh2, ← z1]; exact Heap.get?_push_size _ rfl
  have z2 : h2.objs.size = hp.objs.size + 1 := by rw [← hh2, Heap.size_push, z1]
  have k2 : ∀ b o, b ≠ it → hp.get? b = some o → h2.get? b = some o := fun b o hb e => by rw [← hh2]; exact Heap.get?_push_of_some _ (s1.extBut b o hb e)
  show wpAny _ _ (Builtin.Dict_items.ownedTupleIsFree (.ref it) >>= _) _ _ ⟨h2, g, dr, tk, os⟩
  rw [z1]
  clear hh2 e1 s1 ty1 z1 h1
  refine wpAny_bind ?_
  unfold Builtin.Dict_items.ownedTupleIsFree
  refine wpAny_bind (wpAny_field e2 rfl (x := .none) rfl (wpAny_pure ?_))
  simp only [if_true]
  refine wpAny_bind (wpAny_field e2 rfl (x := k0) rfl ?_)
  refine wpAny_bind (wpAny_field e2 rfl (x := v0) rfl ?_)
  refine wpAny_bind (wpAny_setField_rec e2 (by simp) fun h3 e3 s3 => ?_)
  replace s3 : Heap.SameBut it h2 h3 := s3
  replace e3 : IsItemIter h3 it d (i + 1) N ep en.key v0 := e3
  refine wpAny_bind (wpAny_setField_rec e3 (by simp) fun h4 e4 s4 => ?_)
  replace s4 : Heap.SameBut it h3 h4 := s4
  replace e4 : IsItemIter h4 it d (i + 1) N ep en.key en.val := e4
  refine wpAny_bind (wpAny_setField_rec e4 (by simp) fun h5 e5 s5 => ?_)
  replace s5 : Heap.SameBut it h4 h5 := s5
  replace e5 : IsItemIterOut h5 it d (i + 1) N ep en.key en.val hp.objs.size := e5
  refine wpAny_bind (wpAny_setField_rec e5 (by simp) fun h6 e6 s6 => ?_)
  replace s6 : Heap.SameBut it h5 h6 := s6
  replace e6 : IsItemIterOut h6 it d (i + 1) N ep en.key en.val hp.objs.size := e6
  refine wpAny_bind (wpAny_letGo (wpAny_pure (wpAny_pure ⟨_, rfl, wpAny_pure (z h6 e6 ?_ ?_ ?_)⟩)))
  · exact s6.extBut _ _ (Nat.ne_of_gt il) (s5.extBut _ _ (Nat.ne_of_gt il) (s4.extBut _ _ (Nat.ne_of_gt il) (s3.extBut _ _ (Nat.ne_of_gt il) t2)))
  · show h6.objs.size = hp.objs.size + 1
    rw [s6.1, s5.1, s4.1, s3.1, z2]
  · exact fun b o hb e => s6.extBut b o hb (s5.extBut b o hb (s4.extBut b o hb (s3.extBut b o hb (k2 b o hb e))))
theorem next_itemsEndR {it d : Addr} {i N ep : Nat} {od : Obj} {es : Array DictEntry} {k0 v0 : Value} {Q : Option Value → Shared → Prop} (hh : A.handled = none) (st : IsItemIter s.heap it d i N ep k0 v0)
    (gd : s.heap.get? d = some od) (dt : od.data = .dict es ep) (sz : es.size = N) (hge : N ≤ i) (z : ∀ h', Heap.ExtBut it s.heap h' → Q none { s with heap := h' }) : wpAny (model prog w) A (pyNext (.ref it)) Q E s := by
  have ty : s.TypeIs (.ref it) "dict_itemiterator" := ⟨_, st, rfl⟩
  unfold pyNext
  refine wpAny_bind (wpAny_attempt (wpAny_callSpecial?_slot (name := Str.ofString "__next__") ty F.slot_dict_itemiterator_next
    (wpAny_call_entry F.slot_dict_itemiterator_next ty F.entry_dict_itemiterator_next ?_ (F.args_dict_itemiterator_next_1 _))))
  refine wpAny_bind (wpAny_pure ?_)
  refine wpAny_bind ?_
  refine wpAny_bind ?_
  first | refine wpAny_bind (wpAny_typeNameOfWhole_itemiter ty (wpAny_pure ?_)) | refine wpAny_bind (wpAny_typeNameOf_itemiter ty (wpAny_pure ?_))
  refine wpAny_bind (wpAny_fieldsOf st rfl ?_)
  have own : Builtin.Dict_items.ownsTuple "dict_itemiterator" = true := by decide
  simp only [own, if_true]
  show wpAny _ _ (if (Value.ref d == Value.none) = true then _ else _) _ _ s
  rw [if_neg (show ¬ ((Value.ref d == Value.none) = true) from Bool.false_ne_true)]
  refine wpAny_bind (wpAny_pure ?_)
  refine wpAny_bind (wpAny_dictEntries gd dt ?_)
  rw [if_neg (by rw [sz]; simp)]
  refine wpAny_bind (wpAny_pure ?_)
  refine wpAny_bind (wpAny_dictEpoch gd dt ?_)
  rw [if_neg (by simp)]
  refine wpAny_pure ?_
  have ge : es.size ≤ i := by rw [sz]; exact hge
  simp only [show ¬ ((i : Int) < 0) from by omega, if_false, Int.toNat_natCast, Array.getElem?_eq_none ge]
  refine wpAny_bind ?_
  first | refine wpAny_bind (wpAny_typeNameOfWhole_itemiter ty (wpAny_pure ?_)) | refine wpAny_bind (wpAny_typeNameOf_itemiter ty (wpAny_pure ?_))
  show wpAny _ _ (setField (.ref it) 2 .none >>= _) _ _ s
  refine wpAny_bind (wpAny_setField st rfl (by simp) ?_)
  show wpAny _ _ (newExc (.type "StopIteration") [] >>= _) _ _ _
  refine wpAny_bind ?_
  simp only [newExc, newTuple]
  refine wpAny_bind (wpAny_newObj_type ?_ (by size_fits))
  refine wpAny_bind (m := firstArgMember _ _) (wpAny_of_eq (a := Value.none) (by first | rfl | (simp only [firstArgMember]; rfl)) ?_)
  refine wpAny_newObj_type ?_ (by size_fits)
  simp only [raiseNew]
  refine wpAny_bind (wpAny_handled ?_)
  rw [show A.in1.handled = none from hh]
  refine wpAny_bind (wpAny_pure (wpAny_throw ?_))
  refine wpAny_bind (wpAny_isInstance (T := "StopIteration") (b := true) ⟨_, Heap.get?_push_size _ rfl, rfl⟩ isSubtype_stop ?_)
  exact wpAny_pure (z _ (((Heap.SameBut.update ..).extBut.push _).push _))
end
section
variable {X : Cx} {pins : List (Addr × Obj)} {σ : St} {H : Hp} {s : Shared} {d : Addr} {o : Obj}
/-- a locked dict of tuple keys: its entries, with the values -/
theorem Inv.frzTV {kvs : List (List Key × V)} (I : Inv X pins σ H s) (h : H d = some (.frz o (.dT kvs))) :
    (d == sysModules) = false ∧ s.heap.get? d = some o ∧ o.ExactDict ∧ kvs.length ≤ sizeLine ∧ ∃ (es : Array DictEntry) (ep : Nat), o.data = .dict es ep ∧ es.size = kvs.length ∧
      ∀ (i : Nat) (k : List Key) (v : V), kvs[i]? = some (k, v) → ∃ (en : DictEntry) (q : Addr), es[i]? = some en ∧ en.key = .ref q ∧ H q = some (.tup (k.map kV)) ∧ RelV v en.val := by
  obtain ⟨hd, z, hs, xs, pr, o', es, ep, ho, hx, hdt, he, _⟩ := I.hok d _ h
  rw [hd] at ho
  cases ho
  refine ⟨hs, hd, hx, z, es, ep, hdt, ?_, fun i k v e => ?_⟩
  · have l1 : es.size = xs.length := size_of_entries he
    have l2 : kvs.length = xs.length := Paired.length pr
    omega
  · obtain ⟨b, hb, e1, e2, e3⟩ := paired_get pr e
    have q := entry_at he i
    rw [hb] at q
    exact ⟨_, b.2.1, q, rfl, e2, e3⟩
end
/-- the pairs of a locked dict with tuple keys, each a new tuple: the key's own tuple, the value -/
def Itit (d : Addr) (o : Obj) (kvs : List (List Key × V)) : It :=
  ⟨fun i H => H d = some (.frz o (.dT kvs)) ∧ i < kvs.length, fun i H x H' => ∃ (T : Addr) (k : List Key) (v : V) (q : Addr), kvs[i]? = some (k, v) ∧ x = .ref T ∧ H T = none ∧ H q = some (.tup (k.map kV)) ∧ H' = upd H T (.tup [.ref q, v]), fun i H => H d = some (.frz o (.dT kvs)) ∧ kvs.length ≤ i⟩
section
variable {P : Program} {w : World} {K : PySem.W.Frag} {d : Addr} {o : Obj} {es : Array DictEntry} {ep : Nat}
theorem turn_itemsT {kvs : List (List Key × V)} {elts : List Expr} {kk : Nat} {tpos : Pos} (it : Addr) (hod : o.data = .dict es ep) :
    Turn P w K (.Tuple elts kk tpos) (Itit d o kvs) [it] it (fun i h => ∃ k0 v0, IsItemIter h it d i kvs.length ep k0 v0) where
  mem := by simp
  obj := fun i h st b hb => by
    have e : b = it := by simpa using hb
    subst e
    obtain ⟨k0, v0, e⟩ := st
    exact ⟨_, e, fun v z => nomatch z⟩
  keep := fun i h h' st k => let ⟨k0, v0, e⟩ := st; ⟨k0, v0, k it (by simp) _ e⟩
  item := by
    intro X hP hw hK hc i pins s σ H E I hf st hg
    subst hP hw hK
    obtain ⟨hd, hi⟩ := hg
    obtain ⟨hs, hgd, hx, hz, es', ep', hdt, hsz, ent⟩ := I.frzTV hd
    obtain ⟨rfl, rfl⟩ := dict_ep hod hdt
    obtain ⟨⟨k, v⟩, hkv⟩ : ∃ p, kvs[i]? = some p := ⟨kvs[i], List.getElem?_eq_getElem hi⟩
    obtain ⟨en, q, hen, hkey, hq, rv⟩ := ent i k v hkv
    obtain ⟨k0, v0, he⟩ := st
    have hlt : it < s.heap.objs.size := Heap.lt_size he
    refine next_itemR he hgd hdt hsz hen fun h' ho hT hz' hk => ?_
    refine ⟨_, rfl, wpAny_letOwnedTupleGo_items (s := { s with heap := h' }) ho fun h'' he' sb => ?_⟩
    have hT2 : h''.get? s.heap.objs.size = some { cls := .type "tuple", data := .seq #[en.key, en.val] } := (sb.2 _ (Nat.ne_of_gt hlt)).trans hT
    have new : ObjOk X.prog X.w (upd H s.heap.objs.size (.tup [.ref q, v])) h'' s.heap.objs.size (.tup [.ref q, v]) :=
      ⟨by show 2 ≤ sizeLine; decide, [en.key, en.val], .cons hkey (.cons rv .nil), ⟨_, hT2, rfl, _, rfl⟩⟩
    have I1 : Inv X pins σ (upd H s.heap.objs.size (.tup [.ref q, v])) { s with heap := h'' } :=
      I.turnedNew (t' := s.toks) (ch := [it]) (fun b ob hb e => (sb.2 b (by simpa using hb)).trans (hk b ob (by simpa using hb) e)) hf (Nat.le_refl _) new
    refine ⟨.ref s.heap.objs.size, _, I1, rfl, ⟨_, k, v, q, hkv, rfl, I.hok.fresh (Nat.le_refl _), hq, rfl⟩, ⟨en.key, en.val, he'⟩, fun b hb => ?_⟩
    have e : b = it := by simpa using hb
    rw [e, upd_ne (Nat.ne_of_lt hlt)]
    exact (hf it (by simp)).1
  done := by
    intro X hP hw hK hc i pins s σ H E I hf st hg
    subst hP hw hK
    obtain ⟨hd, hi⟩ := hg
    obtain ⟨f0, f1, f2, f3, f4, f5⟩ := hf it (by simp)
    obtain ⟨hs, hgd, hx, hz, es', ep', hdt, hsz, ent⟩ := I.frzTV hd
    obtain ⟨rfl, rfl⟩ := dict_ep hod hdt
    obtain ⟨k0, v0, he⟩ := st
    exact next_itemsEndR (I.ok.hd hc) he hgd hdt hsz hi fun h' eb => ⟨rfl, I.turned (t' := s.toks) (fun b ob hb e => eb b ob hb e) f0 f1 f3 f4 f5⟩
  self := fun A i s Q E st h => let ⟨_, _, e⟩ := st; PySem.W.kcp_self e h
end
section
variable {X : Cx} {e : Expr} {td : TE} {apos cpos : Pos}
def iItemsT (td : TE) : TI := fun σ H R => td σ H fun x H1 => ∃ d o kvs, x = .ref d ∧ H1 d = some (.frz o (.dT kvs)) ∧ R (Itit d o kvs) H1
theorem pi_itemsT {elts : List Expr} {kk : Nat} {tpos : Pos} (he : PE X e td) (hbase : attributeBase e "items" X.env (eval e X.env) = eval e X.env := by rfl) (hline : (apos.endLine == cpos.line) = true := by rfl) :
    PI X (.Tuple elts kk tpos) (.Call (.Attribute e "items" apos) [] [] cpos) (iItemsT td) := by
  intro pins s σ H R I h
  refine wpAny_Call_method (T := "dict") (id := "dict.items") hbase rfl hline F.plainAttrs_dict F.slot_dict_items F.type_dict_items (thn (he pins s σ H _ I h) fun u s1 ⟨x, H1, I1, rx, d, o, kvs, ex, hd, q⟩ => ?_)
  subst ex
  obtain rfl : u = Value.ref d := rx
  obtain ⟨hs, hgd, hx, hz, es, ep, hdt, hsz, ent⟩ := I1.frzTV hd
  have ty : s1.TypeIs (.ref d) "dict" := ⟨o, hgd, hx.1⟩
  refine ⟨ty, (isD_at I1 (.inr ⟨kvs, .inr ⟨o, hd⟩⟩)).2.1, ?_⟩
  have I2 : Inv X pins σ H1 { s1 with heap := s1.heap.push { cls := .type "dict_items", data := .fields #[.ref d] } } := I1.kept (t' := s1.toks) fun b ob q => Heap.get?_push_of_some _ q
  have fin : wpAny (model X.prog X.w) X.A (pyIter (.ref s1.heap.objs.size)) (PIE X pins σ (.Tuple elts kk tpos) R) X.xe { s1 with heap := s1.heap.push { cls := .type "dict_items", data := .fields #[.ref d] } } := by
    refine iter_itemsR (d := d) ⟨_, Heap.get?_push_size _ rfl, rfl, rfl⟩ (Heap.get?_push_of_some _ hgd) hdt (by omega) (pi_one (tk := s1.toks) I2 _ (turn_itemsT _ hdt) ⟨.none, .none, ?_⟩ q)
    rw [← hsz]
    exact Heap.get?_push_size _ rfl
  show wpAny _ _ (callWith cpos (.builtin "dict.items") [.ref d] [] []) _ X.xe s1
  exact method_meetsIn F.slot_dict_items F.entry_dict_items rfl (PySem.evalArgs_none ⟨rfl, ty, F.args_dict_items_1 _, _, meets_itemsR d hs, ty, fin⟩)
end
end L2
namespace L2
open PySem PySem.Spec PyProof.Rows
/-- over the pairs of a locked dict with tuple keys -/
theorem for_itemsT {d : Addr} {o : Obj} {kvs : List (List Key × V)} {g : TG} {tb : TS} {D : Ends} {σ : St} {H : Hp} (Pv : Nat → St → Hp → Prop) (h0 : Pv 0 σ H) (hl : ∀ i σ H, i ≤ kvs.length → Pv i σ H → H d = some (.frz o (.dT kvs)))
    (hs : ∀ i k v T q σ H, kvs[i]? = some (k, v) → H T = none → H q = some (.tup (k.map kV)) → Pv i σ H → g (.ref T) σ (upd H T (.tup [.ref q, v])) fun σ2 H2 => tb { D with nx := Pv (i + 1), ct := Pv (i + 1), bk := D.nx } σ2 H2)
    (hd : ∀ σ H, Pv kvs.length σ H → D.nx σ H) :
    ∃ W : Nat → Nat → St → Hp → Prop, (∃ m, W 0 m σ H) ∧ ∀ i m σ H, W i m σ H →
      ((Itit d o kvs).stop i H ∧ D.nx σ H) ∨ ((Itit d o kvs).go i H ∧ ∃ N : St → Hp → Prop, (∀ σ' H', N σ' H' → ∃ m', m' < m ∧ W (i + 1) m' σ' H') ∧ ∀ x H', (Itit d o kvs).yld i H x H' → g x σ H' fun σ2 H2 => tb { D with nx := N, ct := N, bk := D.nx } σ2 H2) := by
  refine ⟨fun i m σ H => m = kvs.length - i ∧ i ≤ kvs.length ∧ Pv i σ H, ⟨kvs.length, by simp, Nat.zero_le _, h0⟩, ?_⟩
  rintro i m σ H ⟨rfl, hi, p⟩
  have q := hl i σ H hi p
  by_cases hlt : i < kvs.length
  · refine .inr ⟨⟨q, hlt⟩, Pv (i + 1), fun σ' H' p' => ⟨kvs.length - (i + 1), by omega, rfl, hlt, p'⟩, fun x H' y => ?_⟩
    obtain ⟨T, k, v, a, e1, rfl, e2, e3, rfl⟩ := y
    exact hs i k v T a σ H e1 e2 e3 p
  · have e : i = kvs.length := by omega
    subst e
    exact .inl ⟨⟨q, Nat.le_refl _⟩, hd σ H p⟩
end L2

end

section
set_option Elab.async false
set_option linter.all false
set_option maxRecDepth 100000
set_option maxHeartbeats 4000000
/-! More rules beside the layer's, below its values: t * n; min of things that the heap tells. -/
namespace L2
open PySem
section
open PySem.AutoSeq1 (wpAny_loadPart')
theorem rmul_tup (k : Int) (t : Tok) (l : Addr) (its : Array Value) (n : Nat) (dd : Option Addr) (sl : Array (Option Value)) :
    Meets (Builtin.«int.__rmul__» ⟨[.int k t, .ref l], []⟩) (fun _ R s => s.heap.get? l = some { cls := .type "tuple", dict := dd, data := .seq its n, slots := sl } ∧ R (.ok (.ret Value.notImplemented)) s) :=
  .of_wp fun prog w A R s z => by
    obtain ⟨hp, g, d, tk, os⟩ := s
    obtain ⟨hl, z⟩ := z
    wp_walk
    exact ⟨_, rfl, z⟩
theorem mul_tup (l : Addr) (its : Array Value) (n : Nat) (dd : Option Addr) (sl : Array (Option Value)) (k : Int) (t : Tok) (h0 : ¬ (decide (k < -(2 ^ 63)) || decide (k ≥ 2 ^ 63)) = true) (h1 : ¬ (its.isEmpty || k == 1) = true)
    (h2 : ¬ (decide (k ≤ 0) || its.isEmpty) = true) (h3 : ¬ (its.size : Int) * k > (2 ^ 63 - 1) / 8) (h4 : ¬ Builtin.Tuple.tupleTooMany ((its.size : Int) * k) = true) (h5 : ((List.replicate k.toNat its).foldl (fun x y => x ++ y) #[]).size ≤ sizeLine) :
    Meets (Builtin.«tuple.__mul__» ⟨[.ref l, .int k t], []⟩) (fun _ R s => s.heap.get? l = some { cls := .type "tuple", dict := dd, data := .seq its n, slots := sl } ∧
      R (.ok (.ret (.ref s.heap.objs.size))) { s with heap := s.heap.push { cls := .type "tuple", data := .seq ((List.replicate k.toNat its).foldl (fun x y => x ++ y) #[]) } }) :=
  .of_wp fun prog w A R s z => by
    obtain ⟨hp, g, d, tk, os⟩ := s
    obtain ⟨hl, z⟩ := z
    wp_walk using wpAny_loadPart' hl
    rw [if_neg h0]
    wp_walk using wpAny_loadPart' hl
    rw [if_neg h3]
    wp_walk using wpAny_loadPart' hl
    exact ⟨_, rfl, z⟩
end
/-! ### min, where a comparison looks at the heap -/
section
variable {prog : Program} {w : World} {A : Around} {I S : Addr} {fp wr : List Addr} {n : Nat} {P : Nat → Value → Prop} {St : Nat → Heap → Prop} {Kp : Heap → Prop} {bt : Nat → Nat → Bool} {R : Result → Shared → Prop}
/-- what comparisons look at lasts while the walk and its own list change -/
def Lasts (wr : List Addr) (S : Addr) (Kp : Heap → Prop) : Prop := ∀ h h', Kp h → (∀ b o, b ∉ wr → b ≠ S → h.get? b = some o → h'.get? b = some o) → Kp h'
def CmpK (prog : Program) (w : World) (A : Around) (Kp : Heap → Prop) (P : Nat → Value → Prop) (bt : Nat → Nat → Bool) : Prop :=
  ∀ i j x y (s : Shared) (Q E : Value → Shared → Prop), Kp s.heap → P i x → P j y → Q (.bool (bt i j)) s → wpAny (model prog w) A (richCompare .Lt x y) Q E s
/-- the end of the walk: the best one, all else as it was -/
def MinEnd (R : Result → Shared → Prop) (wr : List Addr) (S : Addr) (P : Nat → Value → Prop) (m : Nat) (s : Shared) : Prop :=
  ∀ v h' tk, P m v → (∀ b o, b ∉ wr → b ≠ S → s.heap.get? b = some o → h'.get? b = some o) → R (.ok (.ret v)) { s with heap := h', toks := tk }
theorem MinEnd.later {m : Nat} {s : Shared} {h1 : Heap} {t1 : Tok} (q : MinEnd R wr S P m s) (hk : ∀ b o, b ∉ wr → b ≠ S → s.heap.get? b = some o → h1.get? b = some o) : MinEnd R wr S P m { s with heap := h1, toks := t1 } :=
  fun v h' tk hv k2 => q v h' tk hv fun b o n1 n2 e => k2 b o n1 n2 (hk b o n1 n2 e)
theorem upd_S {h : Heap} {f : Obj → Obj} : ∀ b o, b ∉ wr → b ≠ S → h.get? b = some o → (h.update S f).get? b = some o := fun b o _ n2 e => (Heap.get?_update_other h f (Ne.symm n2)).trans e
theorem min_goes (W : Walks prog w A.in1 I fp wr n P St) (hK : Lasts wr S Kp) (hc : CmpK prog w A.in1 Kp P bt) (hSf : S ∉ fp) : ∀ (k j : Nat) (s : Shared) (x : Value) (c : Nat), n = j + 1 + k → St (j + 1) s.heap → Kp s.heap → P (argBest bt j) x →
    s.heap.get? S = some { cls := .type "list", data := .seq #[x, x] c } → MinEnd R wr S P (argBest bt (n - 1)) s → codeAny (model prog w) A (.builtin "min.loop" ⟨[.ref I, .none, .ref S], []⟩) R s := by
  have hSw : S ∉ wr := fun q => hSf (W.sub _ q)
  have nm : (toString "min" ++ toString ".loop" : String) = "min.loop" := by decide
  intro k
  induction k with
  | zero =>
    intro j s x c en hst _ hx hS z
    subst en
    refine codeAny_builtin F.entry_min_loop (by
      rw [Around.under_plainId F.plain_min_loop _]
      refine wpAny_bind (m := seqItems? (.ref S)) (wpAny_seqItems hS rfl (wpAny_bind (m := tryCatch (pyNext (.ref I)) _) (wpAny_tryCatch (W.done s _ _ hst fun h' tk hk => ?_))))
      refine wpAny_bind (m := updateSeq S (fun _ => #[])) (wpAny_updateSeq (hk S _ hSw hS) rfl (wpAny_bind (wpAny_letGo (wpAny_pure ?_))))
      exact z x _ tk hx fun b o n1 n2 e => upd_S (wr := wr) b o n1 n2 (hk b o n1 e))
  | succ k ih =>
    intro j s x c en hst hkp hx hS z
    refine codeAny_builtin F.entry_min_loop (by
      rw [Around.under_plainId F.plain_min_loop _]
      refine wpAny_bind (m := seqItems? (.ref S)) (wpAny_seqItems hS rfl (wpAny_bind (m := tryCatch (pyNext (.ref I)) _) (wpAny_tryCatch (W.item (j + 1) s _ _ (by omega) hst fun y h' tk hy hst' hk => ?_))))
      have hS1 := hk S _ hSw hS
      have kp1 : Kp h' := hK _ _ hkp fun b o n1 _ e => hk b o n1 e
      have z1 : MinEnd R wr S P (argBest bt (n - 1)) { s with heap := h', toks := tk } := z.later fun b o n1 _ e => hk b o n1 e
      show wpAny _ A.in1 (tryCatch (holding [y, y] (richCompare .Lt y x >>= _)) _ >>= _) _ _ _
      refine wpAny_bind (wpAny_tryCatch (wpAny_holding (wpAny_bind (hc (j + 1) (argBest bt j) y x { s with heap := h', toks := tk } _ _ kp1 hy hx ?_))))
      refine wpAny_bind (wpAny_holding (wpAny_truthy_bool (wpAny_bind (wpAny_letGo (wpAny_pure ?_)))))
      cases hb : bt (j + 1) (argBest bt j) with
      | true =>
        have ea : argBest bt (j + 1) = j + 1 := by simp only [argBest, hb, if_true]
        simp only [if_true]
        refine wpAny_bind (wpAny_updateSeq hS1 rfl (wpAny_bind (wpAny_letGo ?_)))
        rw [nm]
        refine wpAny_pure ⟨plainId_quiet F.plain_min_loop _, ih (j + 1) _ y _ (by omega) (W.frame _ _ _ hst' fun b hbf o e => ?_) (hK _ _ kp1 (upd_S (wr := wr))) (by rw [ea]; exact hy) (Heap.get?_update_self _ hS1 rfl) (z1.later (upd_S (wr := wr)))⟩
        exact (Heap.get?_update_other _ _ (fun q : S = b => hSf (q ▸ hbf))).trans e
      | false =>
        have ea : argBest bt (j + 1) = argBest bt j := by simp only [argBest, hb, Bool.false_eq_true, if_false]
        simp only [Bool.false_eq_true, if_false]
        refine wpAny_bind (wpAny_letGo ?_)
        rw [nm]
        exact wpAny_pure ⟨plainId_quiet F.plain_min_loop _, ih (j + 1) _ x c (by omega) hst' kp1 (by rw [ea]; exact hx) hS1 z1⟩)
theorem min_begins (W : Walks prog w A.in1 I fp wr n P St) (hK : Lasts wr S Kp) (hc : CmpK prog w A.in1 Kp P bt) (hSf : S ∉ fp) (hn : 0 < n) {s : Shared} {c : Nat} (hst : St 0 s.heap) (hkp : Kp s.heap)
    (hS : s.heap.get? S = some { cls := .type "list", data := .seq #[] c }) (z : MinEnd R wr S P (argBest bt (n - 1)) s) : codeAny (model prog w) A (.builtin "min.loop" ⟨[.ref I, .none, .ref S], []⟩) R s := by
  have hSw : S ∉ wr := fun q => hSf (W.sub _ q)
  have nm : (toString "min" ++ toString ".loop" : String) = "min.loop" := by decide
  refine codeAny_builtin F.entry_min_loop (by
    rw [Around.under_plainId F.plain_min_loop _]
    refine wpAny_bind (m := seqItems? (.ref S)) (wpAny_seqItems hS rfl (wpAny_bind (m := tryCatch (pyNext (.ref I)) _) (wpAny_tryCatch (W.item 0 s _ _ hn hst fun y h' tk hy hst' hk => ?_))))
    have hS1 := hk S _ hSw hS
    have kp1 : Kp h' := hK _ _ hkp fun b o n1 _ e => hk b o n1 e
    have z1 : MinEnd R wr S P (argBest bt (n - 1)) { s with heap := h', toks := tk } := z.later fun b o n1 _ e => hk b o n1 e
    refine wpAny_bind (m := updateSeq S (fun _ => #[y, y])) (wpAny_updateSeq hS1 rfl ?_)
    rw [nm]
    refine wpAny_pure ⟨plainId_quiet F.plain_min_loop _, min_goes W hK hc hSf (n - 1) 0 _ y _ (by omega) (W.frame _ _ _ hst' fun b hbf o e => ?_) (hK _ _ kp1 (upd_S (wr := wr))) hy (Heap.get?_update_self _ hS1 rfl) (z1.later (upd_S (wr := wr)))⟩
    exact (Heap.get?_update_other _ _ (fun q : S = b => hSf (q ▸ hbf))).trans e)
/-- min(x), x walked by W, comparisons by the heap that is kept -/
theorem min_heap {E : Value → Shared → Prop} {s : Shared} {x : Value} {Q : Value → Shared → Prop}
    (h : wpAny (model prog w) A.in1 (pyIter x) (fun it s2 => ∃ I fp wr n P St bt Kp, it = .ref I ∧ Walks prog w A.in1 I fp wr n P St ∧ St 0 s2.heap ∧ (∀ b ∈ fp, b < s2.heap.objs.size) ∧ 0 < n ∧ Lasts wr s2.heap.objs.size Kp ∧ Kp s2.heap ∧ CmpK prog w A.in1 Kp P bt ∧
      ∀ v h' tk, P (argBest bt (n - 1)) v → (∀ b o, b ∉ wr → s2.heap.get? b = some o → h'.get? b = some o) → Q v { s2 with heap := h', toks := tk }) E s) :
    wpAny (model prog w) A (call (.builtin "min") [x]) Q E s := by
  have nm : (toString "min" ++ toString ".loop" : String) = "min.loop" := by decide
  refine call_function_tree F.kind_min F.plain_min F.entry_min (F.args_min1 _) ?_
  refine wpAny_bind (m := Builtin.Builtins.bindParams "min" ["key", "default"] 0 ⟨[], []⟩) (wpAny_of_eq (a := [none, none]) rfl (wpAny_bind (wpAny_pure (wpAny_bind (wpAny_mono h (fun it s2 h2 => ?_) fun _ _ e => e)))))
  obtain ⟨I, fp, wr, n, P, St, bt, Kp, rfl, W, hst, hfp, hn, hK, hkp, hc, z⟩ := h2
  have hSf : s2.heap.objs.size ∉ fp := fun q => Nat.lt_irrefl _ (hfp _ q)
  refine wpAny_bind (wpAny_newObj_type ?_)
  rw [nm]
  have up : ∀ b o, s2.heap.get? b = some o → (s2.heap.push { cls := .type "list", data := .seq #[] }).get? b = some o := fun b o e => Heap.get?_push_of_some _ e
  refine wpAny_pure ⟨plainId_quiet F.plain_min_loop _, min_begins W hK hc hSf hn (W.frame _ _ _ hst fun b _ o e => up b o e) (hK _ _ hkp fun b o _ _ e => up b o e) (Heap.get?_push_size _ rfl) fun v h' tk hv hk => ?_⟩
  exact z v h' tk hv fun b o nb e => hk b o nb (Nat.ne_of_lt (Heap.lt_size e)) (up b o e)
end
end L2

end

section
set_option Elab.async false
set_option linter.all false
set_option maxRecDepth 100000
set_option maxHeartbeats 4000000
/-! More rules beside the layer's, by values: t * n, t + u, {t: v}, len of a dict whose keys are tuples, sum, min and max of a tuple of ints, min of a list of such tuples, walks over such a dict's keys. -/
namespace L2
open PySem PySem.Spec PyProof.Rows
/-! ### t * n -/
theorem nofill_tmul : fillsNumberSlot (.type "tuple") "mul" = pure false :=
  PySem.fillsNumberSlot_seq (id := "tuple.__mul__") (r := some (.builtin "tuple.__rmul__")) F.slot_tuple_mul.lookup (by decide +kernel) F.slot_tuple_rmul.lookup (by decide +kernel)
theorem rep_tuple : seqRepeat? (.type "tuple") = pure (some (.builtin "tuple.__mul__")) := by
  have e1 := PySem.seqSlot_of (T := "tuple") (name := "__mul__") (id := "tuple.__mul__") F.slot_tuple_mul.lookup (by decide +kernel)
  have e2 := PySem.seqSlot_of (T := "tuple") (name := "__rmul__") (id := "tuple.__rmul__") F.slot_tuple_rmul.lookup (by decide +kernel)
  unfold seqRepeat?; rw [e1, e2]; rfl
section
variable {X : Cx}
/-- t * n, t not empty, n at least 2 -/
def rRepT (K : PySem.W.Frag) : R2 := fun x y H Q => ∃ l k xs, x = .ref l ∧ y = .int k ∧ SqT K H l xs ∧ xs ≠ [] ∧ 2 ≤ k ∧ k < 2 ^ 63 ∧ xs.length * k.toNat ≤ sizeLine ∧ ∀ p, H p = none → Q (.ref p) (upd H p (.tup (List.replicate k.toNat xs).flatten))
theorem op_repT : OpR X (binaryOp .Mult) (rRepT X.K) := by
  intro pins s σ H x y v u Q I rx ry h
  obtain ⟨l, k, xs, rfl, rfl, hH, hne, h1, h2, hz, q⟩ := h
  cases rx
  obtain ⟨t, rfl⟩ := ry
  obtain ⟨its, r, ⟨⟨cls, dd, data, sl⟩, e, hc, n, hd⟩, z⟩ := I.tuple hH
  simp only at hc hd
  subst hc hd
  have hl := r.length
  have hne' : its ≠ [] := fun q => hne (r.nil_iff.mp q)
  have hnew : List.foldl (fun x y => x ++ y) #[] (List.replicate k.toNat its.toArray) = (List.replicate k.toNat its).flatten.toArray := by
    have := foldl_rep its k.toNat []
    rw [List.nil_append] at this
    exact this
  have em : its.toArray.isEmpty = false := by
    cases its with
    | nil => exact absurd rfl hne'
    | cons a b => rfl
  have sz : (its.toArray.size : Int) * k = ((its.length * k.toNat : Nat) : Int) := by
    rw [List.size_toArray, Int.natCast_mul, Int.toNat_of_nonneg (by omega)]
  have hz' : its.length * k.toNat ≤ sizeLine := by rw [← hl]; exact hz
  have cap : sizeLine ≤ (2 ^ 63 - 1) / 8 := by decide
  have lr0 : (List.replicate k.toNat its).flatten.length = its.length * k.toNat := by rw [len_rep, Nat.mul_comm]
  have lr : ((List.replicate k.toNat its).flatten).length ≤ sizeLine := by rw [lr0]; exact hz'
  obtain ⟨N, hN⟩ : ∃ N, N = its.length * k.toNat := ⟨_, rfl⟩
  rw [← hN] at sz hz'
  refine wpAny_binaryOp_repeat_ref (T := "tuple") (U := "int") (by decide) ⟨_, e, rfl⟩ (fun s' => typeIs_int s' k t) nofill_tmul F.fills_int_mul F.slot_int_rmul rep_tuple F.slot_int_index.lookup
    (call_meets F.slot_int_rmul (typeIs_int s k t) F.entry_int_rmul (F.args_int_rmul_2 _ _) (rmul_tup k t l its.toArray n dd sl)
      ⟨e, rfl, ⟨_, e, rfl⟩, call_meets F.slot_tuple_mul ⟨_, e, rfl⟩ F.entry_tuple_mul (F.args_tuple_mul_2 _ _) (mul_tup l its.toArray n dd sl k t (by simp; omega) (by rw [em]; simp; omega) (by rw [em]; simp; omega) (by rw [sz]; omega)
        (by rw [sz]; unfold Builtin.Tuple.tupleTooMany; exact fun q => by have := of_decide_eq_true q; omega) (by rw [hnew]; exact lr)) ⟨e, ?_⟩⟩)
  rw [hnew]
  exact ⟨.ref _, _, I.laid (t' := s.toks) (o := .tup (List.replicate k.toNat xs).flatten) (fun b ob q => Heap.get?_push_of_some _ q) (Nat.le_refl _) ⟨by rw [len_rep, Nat.mul_comm]; exact hz, _, r.rep k.toNat, IsTup.new _ _⟩, rfl, q _ I.fresh⟩
/-! ### t + u, u not empty -/
def rCatU (K : PySem.W.Frag) : R2 := fun x y H Q => ∃ a b xs ys, x = .ref a ∧ y = .ref b ∧ SqT K H a xs ∧ SqT K H b ys ∧ ys ≠ [] ∧ xs.length + ys.length ≤ sizeLine ∧
  (xs = [] → Q (.ref b) H) ∧ (xs ≠ [] → ∀ p, H p = none → Q (.ref p) (upd H p (.tup (xs ++ ys))))
theorem op_catU : OpR X (binaryOp .Add) (rCatU X.K) := by
  intro pins s σ H x y v u Q I rx ry h
  obtain ⟨a, b, xs, ys, ex, ey, ha, hb, hy, hz, q1, q2⟩ := h
  by_cases hx : xs = []
  · subst ex ey hx
    cases rx
    cases ry
    obtain ⟨its, r1, ⟨⟨cls, dd, data, sl⟩, e1, hc1, n1, hd1⟩, _⟩ := I.tuple ha
    obtain ⟨its2, r2, ⟨⟨cls2, dd2, data2, sl2⟩, e2, hc2, n2, hd2⟩, _⟩ := I.tuple hb
    simp only at hc1 hd1 hc2 hd2
    subst hc1 hd1 hc2 hd2
    have e0 : its = [] := r1.nil_iff.mpr rfl
    exact concat_meets ⟨_, e1, rfl⟩ ⟨_, e2, rfl⟩ noFill_tuple_add seq_tuple_add F.slot_tuple_add F.entry_tuple_add (F.args_tuple_add_2 _ _)
      (tuple_addW0 a b its.toArray its2.toArray n1 n2 dd dd2 sl sl2 (by simp [e0])) ⟨e1, e2, .ref b, H, I, rfl, q1 rfl⟩
  · exact op_catT pins s σ H x y v u Q I rx ry ⟨a, b, xs, ys, ex, ey, ha, hb, hx, hz, fun q => absurd q hy, fun _ => q2 hx⟩
/-! ### len of a dict whose keys are tuples -/
theorem len_entries (d : Addr) (hd : (d == sysModules) = false) (es : Array DictEntry) (ep : Nat) (o : Obj) (ho : o.data = .dict es ep) :
    Meets (Builtin.«dict.__len__» ⟨[.ref d], []⟩) (fun _ R s => s.heap.get? d = some o ∧ R (.ok (.ret (.int es.size s.toks))) { s with toks := s.toks + 1 }) :=
  .of_wp fun prog w A R s ⟨hg, z⟩ => by
    show wpAny _ _ (dictSize d >>= _) _ _ s
    unfold dictSize
    refine wpAny_bind (wpAny_bind (wpAny_dictEntries hg ho (wpAny_pure ?_)))
    refine wpAny_bind (m := Builtin.Dict.pendingCount d) (wpAny_pendingCount_other hd (wpAny_ret_mkInt ?_))
    rw [Nat.add_zero]; exact z
theorem call_lenT : CallR X (.builtin "len") (fun xs H Q => ∃ a kvs, xs = [V.ref a] ∧ Rd H a (.dT kvs) ∧ Q (.int kvs.length) H) := by
  intro pins s σ H xs us Q I r h
  obtain ⟨a, kvs, rfl, ha, q⟩ := h
  rw [Vals.ref1 r]
  obtain ⟨z, hd, ws, rel, o, es, ep, ho, hx, hdt, he, _⟩ := dt_rd I.hok ha
  have hl : es.size = kvs.length := by
    have l1 : es.size = ws.length := size_of_entries he
    have l2 : kvs.length = ws.length := Paired.length rel
    omega
  rw [sizeLine_eq] at z
  refine call_len_meets (n := (es.size : Int)) ⟨o, ho, hx.1⟩ F.slot_dict_len F.entry_dict_len (F.args_dict_len_1 _) (len_entries a hd es ep o hdt) (by omega) (by omega) (fun _ hq => ⟨ho, hq⟩) ?_
  exact ⟨.int kvs.length, H, I.tok _, ⟨_, by rw [hl]⟩, q⟩
/-! ### {t: v} -/
/-- the new dict stands empty while its pair is made -/
def tDisp1 (tk tv : TE) : TE := fun σ H Q => ∀ p, H p = none → tk σ (upd H p (.dT [])) fun x H1 => tv σ H1 fun y H2 => ∃ k b, H2 p = some (.dT []) ∧ x = .ref b ∧ H2 b = some (.tup (k.map kV)) ∧ Q (.ref p) (upd H2 p (.dT [(k, y)]))
theorem pe_disp1 {pos : Pos} {ke ve : Expr} {tk tv : TE} (hu : X.A.units < cLine) (hk : PE X ke tk) (hv : PE X ve tv) : PE X (.Dict [some ke] [ve] pos) (tDisp1 tk tv) := by
  intro pins s σ H Q I q
  have hn := I.hok.fresh (Nat.le_refl s.heap.objs.size)
  have I1 := I.laid (a := s.heap.objs.size) (o := .dT []) (h' := s.heap.push { cls := .type "dict", data := .dict #[] }) (t' := s.toks) (fun _ _ q => Heap.get?_push_of_some _ q) (Nat.le_refl _) (dt_empty s.heap I.big)
  rw [arm_eval_Dict, zip_pairTrees [some ke] [ve] X.env pos rfl rfl, dictDisplay_pairs (pairTrees [some ke] [ve] X.env pos) (fun z => nomatch z) (by show 1 < 17; decide)]
  refine wpAny_bind (wpAny_standAt (wpAny_bind ?_))
  unfold subDict
  refine wpAny_bind (wpAny_alloc (wpAny_bind (wpAny_holding ?_)))
  rw [if_pos (show (pairTrees [some ke] [ve] X.env pos).length ≤ 15 by show 1 ≤ 15; decide)]
  refine wpAny_bind (pairTrees_cons_walk (thn (hk pins _ σ _ _ I1 (q _ hn)) fun u s1 ⟨x, H1, I2, rx, q1⟩ => thn (hv pins s1 σ H1 _ I2 q1) fun w2 s2 ⟨y, H2, I3, ry, k, b, e, ex, eb, q2⟩ => pairTrees_nil_walk (wpAny_holding ?_)))
  subst ex
  cases rx
  obtain ⟨z, hd, xs, rel, dd⟩ := dt_of I3.hok e
  cases rel
  rw [List.forIn_cons]
  refine wpAny_bind (wpAny_bind (wpAny_bind (m := dictSet s.heap.objs.size (.ref b) w2) (wpAny_dictSet_heap (hsz := Nat.zero_le _) (show (tupleKind (mixKind X.prog X.w)).room X.A from hu) (key_of I3.hok eb) dd fun h' dd' hs => wpAny_pure ?_)))
  refine wpAny_of_eq (a := PUnit.unit) (by first | rfl | exact List.forIn_nil) (wpAny_pure (wpAny_pure (wpAny_pure ⟨.ref s.heap.objs.size, _, ?_, rfl, q2⟩)))
  obtain ⟨ob, es, ep, hq, h2, h3, h4, _, h5⟩ := dd'
  refine d_write I3 (by rw [e]; exact True.intro) hs ⟨ob, hq⟩ ⟨by show 1 ≤ sizeLine; decide, hd, [(k, b, w2)], .cons ⟨rfl, ?_, ry⟩ .nil, ob, es, ep, hq, h2, h3, h4, h5⟩
  rw [upd_ne (ne_of eb e (fun z => nomatch z))]
  exact eb
/-! ### sum, min, max of a tuple of ints -/
def rSumT (K : PySem.W.Frag) : List V → Hp → VK → Prop := fun vs H Q => ∃ (a : Addr) (ns : List Int), vs = [V.ref a] ∧ SqT K H a (ns.map V.int) ∧ Q (.int ns.sum) H
theorem cr_sumT (hc : X.calm = true) : CallR X (.builtin "sum") (rSumT X.K) := by
  intro pins s σ H vs us Q I r h
  obtain ⟨a, ns, rfl, hs, q⟩ := h
  obtain ⟨its, rv, hl, _⟩ := I.tuple hs
  rw [Vals.ref1 r]
  obtain ⟨xs, e⟩ := rv.ints.allInts.items
  have hn : numsOf (intItems xs).toList = ns := by rw [← e]; exact rv.ints.numsOf
  rw [nums_intItems] at hn
  rw [e] at hl
  refine PySem.W.ktm_sumG (I.ok.hd hc) hl fun h' tk t' hk => ⟨.int ns.sum, H, I.kept hk, ⟨t', ?_⟩, q⟩
  rw [preSum_eq, List.take_of_length_le (by simp), hn]
section
variable {prog : Program} {w : World} {A : Around} {E : Value → Shared → Prop} {s : Shared} {l : Addr} {xs : Array (Int × Tok)} {Q : Value → Shared → Prop}
theorem walk_tup (hh : A.handled = none) (hl : s.heap.IsTuple l (intItems xs)) : l ≠ s.heap.objs.size ∧ (∀ b ∈ [s.heap.objs.size, l], b < (s.heap.push { cls := .type "tuple_iterator", data := .fields #[.ref l, .int 0 0] }).objs.size) ∧
    ∀ h' : Heap, (∀ b o, b ∉ [s.heap.objs.size] → (s.heap.push { cls := .type "tuple_iterator", data := .fields #[.ref l, .int 0 0] }).get? b = some o → h'.get? b = some o) → ∀ b o, s.heap.get? b = some o → h'.get? b = some o := by
  obtain ⟨o, ho, _⟩ := id hl
  have lt := Heap.lt_size ho
  refine ⟨Nat.ne_of_lt lt, fun b hb => ?_, fun h' k b o e => k b o (fun m => ?_) (Heap.get?_push_of_some _ e)⟩
  · rw [Heap.size_push]
    rcases List.mem_cons.mp hb with rfl | hb
    · exact Nat.lt_succ_self _
    · rw [List.mem_singleton.mp hb]; exact Nat.lt_succ_of_lt lt
  · have := Heap.lt_size e
    rw [List.mem_singleton.mp m] at this
    exact Nat.lt_irrefl _ this
theorem min_tup (hh : A.handled = none) (hl : s.heap.IsTuple l (intItems xs)) (hne : 0 < xs.size)
    (h : ∀ v h' tk, (intItems xs)[argBest (fun i j => decide (numAt xs i < numAt xs j)) (xs.size - 1)]? = some v → (∀ b o, s.heap.get? b = some o → h'.get? b = some o) → Q v { s with heap := h', toks := tk }) : wpAny (model prog w) A (call (.builtin "min") [.ref l]) Q E s := by
  obtain ⟨n1, n2, n3⟩ := walk_tup hh hl
  refine call_min_walk (wpAny_pyIter_tuple hl ⟨s.heap.objs.size, _, _, _, _, _, _, rfl, Walks.tuple (A := A.in1) hh _ l n1 (intItems xs), ⟨⟨_, Heap.get?_push_size _ rfl, rfl, rfl⟩, hl.at fun o e => Heap.get?_push_of_some _ e⟩, n2, by simpa [intItems] using hne,
    CmpOf.ints_lt (numAt xs) (fun _ _ => intItems_at), fun v h' tk hP hk => h v h' tk (by simpa [intItems] using hP) (n3 h' hk)⟩)
theorem max_tup (hh : A.handled = none) (hl : s.heap.IsTuple l (intItems xs)) (hne : 0 < xs.size)
    (h : ∀ v h' tk, (intItems xs)[argBest (fun i j => decide (numAt xs i > numAt xs j)) (xs.size - 1)]? = some v → (∀ b o, s.heap.get? b = some o → h'.get? b = some o) → Q v { s with heap := h', toks := tk }) : wpAny (model prog w) A (call (.builtin "max") [.ref l]) Q E s := by
  obtain ⟨n1, n2, n3⟩ := walk_tup hh hl
  refine call_max_walk (wpAny_pyIter_tuple hl ⟨s.heap.objs.size, _, _, _, _, _, _, rfl, Walks.tuple (A := A.in1) hh _ l n1 (intItems xs), ⟨⟨_, Heap.get?_push_size _ rfl, rfl, rfl⟩, hl.at fun o e => Heap.get?_push_of_some _ e⟩, n2, by simpa [intItems] using hne,
    CmpOf.ints_gt (numAt xs) (fun _ _ => intItems_at), fun v h' tk hP hk => h v h' tk (by simpa [intItems] using hP) (n3 h' hk)⟩)
end
def rMinT (K : PySem.W.Frag) : List V → Hp → VK → Prop := fun vs H Q => ∃ (a : Addr) (ns : List Int), vs = [V.ref a] ∧ SqT K H a (ns.map V.int) ∧ 0 < ns.length ∧ ∀ m, m ∈ ns → (∀ y, y ∈ ns → m ≤ y) → Q (.int m) H
def rMaxT (K : PySem.W.Frag) : List V → Hp → VK → Prop := fun vs H Q => ∃ (a : Addr) (ns : List Int), vs = [V.ref a] ∧ SqT K H a (ns.map V.int) ∧ 0 < ns.length ∧ ∀ m, m ∈ ns → (∀ y, y ∈ ns → y ≤ m) → Q (.int m) H
theorem cr_minT (hc : X.calm = true) : CallR X (.builtin "min") (rMinT X.K) := by
  intro pins s σ H vs us Q I r h
  obtain ⟨a, ns, rfl, hs, hne, q⟩ := h
  obtain ⟨its, rv, hl, _⟩ := I.tuple hs
  rw [Vals.ref1 r]
  obtain ⟨xs, e⟩ := rv.ints.allInts.items
  have hn : numsOf (intItems xs).toList = ns := by rw [← e]; exact rv.ints.numsOf
  rw [nums_intItems] at hn
  subst hn
  rw [e] at hl
  have hsz : 0 < xs.size := by simpa using hne
  refine min_tup (I.ok.hd hc) hl hsz fun v h' tk hv hk => ?_
  obtain ⟨t, rfl⟩ := intItems_at hv
  obtain ⟨b1, b2⟩ := argBest_lt (numAt xs) (xs.size - 1)
  refine ⟨.int _, H, I.kept hk, ⟨t, rfl⟩, q _ ?_ fun y hy => ?_⟩
  · rw [numAt_eq]; exact PySem.getD_mem (by rw [List.length_map, Array.length_toList]; omega)
  · obtain ⟨j, hj, rfl⟩ := mem_getD hy
    rw [List.length_map, Array.length_toList] at hj
    have := b2 j (by omega)
    rw [numAt_eq xs j] at this; exact this
theorem cr_maxT (hc : X.calm = true) : CallR X (.builtin "max") (rMaxT X.K) := by
  intro pins s σ H vs us Q I r h
  obtain ⟨a, ns, rfl, hs, hne, q⟩ := h
  obtain ⟨its, rv, hl, _⟩ := I.tuple hs
  rw [Vals.ref1 r]
  obtain ⟨xs, e⟩ := rv.ints.allInts.items
  have hn : numsOf (intItems xs).toList = ns := by rw [← e]; exact rv.ints.numsOf
  rw [nums_intItems] at hn
  subst hn
  rw [e] at hl
  have hsz : 0 < xs.size := by simpa using hne
  refine max_tup (I.ok.hd hc) hl hsz fun v h' tk hv hk => ?_
  obtain ⟨t, rfl⟩ := intItems_at hv
  obtain ⟨b1, b2⟩ := argBest_gt (numAt xs) (xs.size - 1)
  refine ⟨.int _, H, I.kept hk, ⟨t, rfl⟩, q _ ?_ fun y hy => ?_⟩
  · rw [numAt_eq]; exact PySem.getD_mem (by rw [List.length_map, Array.length_toList]; omega)
  · obtain ⟨j, hj, rfl⟩ := mem_getD hy
    rw [List.length_map, Array.length_toList] at hj
    have := b2 j (by omega)
    rw [numAt_eq xs j] at this; exact this
/-! ### min of a list of tuples of ints -/
def rMinTs (K : PySem.W.Frag) : List V → Hp → VK → Prop := fun vs H Q => ∃ (a : Addr) (ts : List Addr) (rows : List (List Int)), vs = [V.ref a] ∧ SqL K H a (ts.map V.ref) ∧ Paired (fun t ns => SqT K H t (ns.map V.int)) ts rows ∧ 0 < ts.length ∧
  ∀ t, ts[argBest (fun i j => HT.lexLt (rows.getD i []) (rows.getD j [])) (ts.length - 1)]? = some t → Q (.ref t) H
theorem cr_minTs (hc : X.calm = true) (hu : X.A.units + 1 < cLine) : CallR X (.builtin "min") (rMinTs X.K) := by
  intro pins s σ H vs us Q I r h
  obtain ⟨a, ts, rows, rfl, hs, hp, hne, q⟩ := h
  obtain ⟨its, rv, hl, _⟩ := I.list hs
  rw [Vals.ref1 r]
  have hil := hl.isList
  have lt : a < s.heap.objs.size := by obtain ⟨_, e, _⟩ := hil; exact Heap.lt_size e
  have hlen : its.length = ts.length := by rw [← rv.length, List.length_map]
  have at_ : ∀ (i : Nat) (v : Value), its.toArray[i]? = some v → ∃ t, ts[i]? = some t ∧ v = .ref t := fun i v e => by
    have e' : its[i]? = some v := by simpa using e
    have hi : i < its.length := (List.getElem?_eq_some_iff.mp e').1
    have et : ts[i]? = some ts[i] := List.getElem?_eq_getElem (by omega)
    obtain ⟨u, eu, ru⟩ := rv.get (i := i) (x := V.ref ts[i]) (by rw [List.getElem?_map, et]; rfl)
    rw [e'] at eu
    cases eu
    exact ⟨_, et, ru⟩
  refine min_heap (wpAny_pyIter_list hil ⟨s.heap.objs.size, [s.heap.objs.size, a], [s.heap.objs.size], its.toArray.size, fun i v => its.toArray[i]? = some v, _, fun i j => HT.lexLt (rows.getD i []) (rows.getD j []), fun h => ∀ b o, s.heap.get? b = some o → h.get? b = some o, rfl,
    Walks.list (A := X.A.in1) (I.ok.hd hc) s.heap.objs.size a (Nat.ne_of_lt lt) its.toArray, ⟨⟨_, Heap.get?_push_size _ rfl, rfl, rfl⟩, hil.push _⟩, fun b hb => ?_, by rw [List.size_toArray]; omega, fun h h' k1 k2 b o e => ?_, fun b o e => Heap.get?_push_of_some _ e, fun i j x y s1 Q1 E1 kp hx hy z => ?_, fun v h' tk hv hk => ?_⟩)
  · show b < (s.heap.push _).objs.size
    rw [Heap.size_push]
    rcases List.mem_cons.mp hb with rfl | hb
    · exact Nat.lt_succ_self _
    · rw [List.mem_singleton.mp hb]; exact Nat.lt_succ_of_lt lt
  · have lb := Heap.lt_size e
    refine k2 b o (fun m => ?_) (fun m => ?_) (k1 b o e)
    · rw [List.mem_singleton.mp m] at lb
      exact Nat.lt_irrefl _ lb
    · subst m
      have lb2 : (s.heap.push { cls := .type "list_iterator", data := .fields #[.ref a, .int 0 0] }).objs.size < s.heap.objs.size := lb
      rw [Heap.size_push] at lb2
      exact Nat.lt_irrefl _ (Nat.lt_of_succ_lt lb2)
  · obtain ⟨t1, e1, rfl⟩ := at_ i x hx
    obtain ⟨t2, e2, rfl⟩ := at_ j y hy
    obtain ⟨n1, f1, g1⟩ := paired_get hp e1
    obtain ⟨n2, f2, g2⟩ := paired_get hp e2
    obtain ⟨is1, r1, ⟨o1, ho1, hc1, m1, hd1⟩, _⟩ := I.tuple g1
    obtain ⟨is2, r2, ⟨o2, ho2, hc2, m2, hd2⟩, _⟩ := I.tuple g2
    have d1 : rows.getD i [] = n1 := by rw [List.getD_eq_getElem?_getD, f1]; rfl
    have d2 : rows.getD j [] = n2 := by rw [List.getD_eq_getElem?_getD, f2]; rfl
    simp only [d1, d2] at z
    exact HT.lt_tupInts (items := is1.toArray) (items2 := is2.toArray) ⟨o1, kp _ _ ho1, hc1, m1, hd1⟩ ⟨o2, kp _ _ ho2, hc2, m2, hd2⟩ (intsAre_of r1) (intsAre_of r2) hu z
  · obtain ⟨t, et, rfl⟩ := at_ _ v hv
    rw [List.size_toArray, hlen] at et
    refine ⟨.ref t, H, I.kept (fun b o e => hk b o (fun m => ?_) (Heap.get?_push_of_some _ e)), rfl, q t et⟩
    have := Heap.lt_size e
    rw [List.mem_singleton.mp m] at this
    exact Nat.lt_irrefl _ this
/-! ### walks over the keys of a locked dict whose keys are tuples -/
theorem for_keysT {d : Addr} {o : Obj} {kvs : List (List Key × V)} {g : TG} {tb : TS} {D : Ends} {σ : St} {H : Hp} (Pv : Nat → St → Hp → Prop) (h0 : Pv 0 σ H) (hl : ∀ i σ H, i ≤ kvs.length → Pv i σ H → H d = some (.frz o (.dT kvs)))
    (hs : ∀ i k v q σ H, kvs[i]? = some (k, v) → H q = some (.tup (k.map kV)) → Pv i σ H → g (.ref q) σ H fun σ2 H2 => tb { D with nx := Pv (i + 1), ct := Pv (i + 1), bk := D.nx } σ2 H2) (hd : ∀ σ H, Pv kvs.length σ H → D.nx σ H) :
    ∃ W : Nat → Nat → St → Hp → Prop, (∃ m, W 0 m σ H) ∧ ∀ i m σ H, W i m σ H →
      ((Itkt d o kvs).stop i H ∧ D.nx σ H) ∨ ((Itkt d o kvs).go i H ∧ ∃ N : St → Hp → Prop, (∀ σ' H', N σ' H' → ∃ m', m' < m ∧ W (i + 1) m' σ' H') ∧ ∀ x H', (Itkt d o kvs).yld i H x H' → g x σ H' fun σ2 H2 => tb { D with nx := N, ct := N, bk := D.nx } σ2 H2) := by
  refine ⟨fun i m σ H => m = kvs.length - i ∧ i ≤ kvs.length ∧ Pv i σ H, ⟨kvs.length, by simp, Nat.zero_le _, h0⟩, ?_⟩
  rintro i m σ H ⟨rfl, hi, p⟩
  have q := hl i σ H hi p
  by_cases hlt : i < kvs.length
  · refine .inr ⟨⟨q, hlt⟩, Pv (i + 1), fun σ' H' p' => ⟨kvs.length - (i + 1), by omega, rfl, hlt, p'⟩, fun x H' y => ?_⟩
    obtain ⟨rfl, k, v, a, e1, rfl, e3⟩ := y
    exact hs i k v a σ H' e1 e3 p
  · have e : i = kvs.length := by omega
    subst e
    exact .inl ⟨⟨q, Nat.le_refl _⟩, hd σ H p⟩
theorem lc_keysT {d : Addr} {o : Obj} {kvs : List (List Key × V)} {g : TG} {tt : TT} {te : TE} {vs : List Nat} {σ : St} {H1 : Hp} {D : Addr} {Qd : Hp → Prop} (Pv : Nat → Hp → Prop) (h0 : Pv 0 (upd H1 D (.lst []))) (hl : ∀ i H, i ≤ kvs.length → Pv i H → H d = some (.frz o (.dT kvs)))
    (hs : ∀ i k v q H, kvs[i]? = some (k, v) → H q = some (.tup (k.map kV)) → Pv i H → g (.ref q) (wipe σ vs) H fun σ2 H2 => wipe σ2 vs = wipe σ vs ∧ tt σ2 H2 fun b H3 =>
      if b = true then te σ2 H3 fun y H4 => ∃ acc, H4 D = some (.lst acc) ∧ acc.length < sizeLine ∧ Pv (i + 1) (upd H4 D (.lst (acc ++ [y]))) else Pv (i + 1) H3) (hd : ∀ H, Pv kvs.length H → Qd H) :
    ∃ W : Nat → Nat → Hp → Prop, (∃ m, W 0 m (upd H1 D (.lst []))) ∧ ∀ i m H, W i m H →
      ((Itkt d o kvs).stop i H ∧ Qd H) ∨ ((Itkt d o kvs).go i H ∧ ∃ Nx : Hp → Prop, (∀ H', Nx H' → ∃ m', m' < m ∧ W (i + 1) m' H') ∧ ∀ x H', (Itkt d o kvs).yld i H x H' → g x (wipe σ vs) H' fun σ2 H2 => wipe σ2 vs = wipe σ vs ∧ tt σ2 H2 fun b H3 =>
        if b = true then te σ2 H3 fun y H4 => ∃ acc, H4 D = some (.lst acc) ∧ acc.length < sizeLine ∧ Nx (upd H4 D (.lst (acc ++ [y]))) else Nx H3) := by
  refine ⟨fun i m H => m = kvs.length - i ∧ i ≤ kvs.length ∧ Pv i H, ⟨kvs.length, by simp, Nat.zero_le _, h0⟩, ?_⟩
  rintro i m H ⟨rfl, hi, p⟩
  have q := hl i H hi p
  by_cases hlt : i < kvs.length
  · refine .inr ⟨⟨q, hlt⟩, Pv (i + 1), fun H' p' => ⟨kvs.length - (i + 1), by omega, rfl, hlt, p'⟩, fun x H' y => ?_⟩
    obtain ⟨rfl, k, v, a, e1, rfl, e3⟩ := y
    exact hs i k v a H' e1 e3 p
  · have e : i = kvs.length := by omega
    subst e
    exact .inl ⟨⟨q, Nat.le_refl _⟩, hd H p⟩
end
end L2

end

section
set_option Elab.async false
set_option linter.all false
set_option maxRecDepth 100000
set_option maxHeartbeats 4000000
/-! ### data, and what stands where -/
namespace L2
open PySem PySem.Spec PyProof.Rows
section
variable {X : Cx}
theorem get_list : PGet X (rIxL X.K) := by
  intro pins s σ H x y v u Q I rx ry h
  obtain ⟨p, xs, i, z, rfl, rfl, hq, he, q⟩ := h
  cases rx
  obtain ⟨t, rfl⟩ := ry
  obtain ⟨its, r, pl, hz⟩ := I.list hq
  obtain ⟨j, h1, h2, h3, h4, h5⟩ := atI_get he
  obtain ⟨w, ew, rw'⟩ := r.get h2
  have hl := r.length
  have hn := line63
  have fin : EP X pins σ Q w s := ⟨z, H, I, rw', q⟩
  by_cases h0 : 0 ≤ i
  · have hj : i.toNat = j := by
      rw [seqIndex_of h0 h5] at h1
      exact Option.some.inj h1
    exact wpAny_getItem_list pl.isList h0 (by omega) (by rw [hj]; simpa using ew) fin
  · have hj : (i + (its.toArray.size : Int)).toNat = j := by
      rw [seqIndex_neg (by omega) h4] at h1
      rw [List.size_toArray, ← hl]
      exact Option.some.inj h1
    exact wpAny_getItem_list_neg pl.isList (by omega) (by rw [List.size_toArray] <;> omega) (by omega) (by rw [hj]; simpa using ew) fin
end
theorem Same.new {H : Hp} {l : Addr} {o : HO} (h : H l = none) : Same H (upd H l o) := fun b u e => by
  rw [upd_ne (ne_of_none e h)]; exact e
theorem Same.put {H H' : Hp} {l : Addr} {o : HO} (s : Same H H') (h : H l = none) : Same H (upd H' l o) := fun b u e => by
  rw [upd_ne (ne_of_none e h)]; exact s b u e
theorem Same.tup {K : PySem.W.Frag} {H H' : Hp} {a : Addr} {xs : List V} (e : Same H H') (h : SqT K H a xs) : SqT K H' a xs := by
  rcases h with (h | ⟨o, h⟩) | h
  · exact .inl (.inl (e _ _ h))
  · exact .inl (.inr ⟨o, e _ _ h⟩)
  · exact .inr h
/-- tuples stay -/
def SameT (H H' : Hp) : Prop := ∀ b xs, H b = some (.tup xs) → H' b = some (.tup xs)
theorem Same.t {H H' : Hp} (s : Same H H') : SameT H H' := fun b xs e => s b _ e
theorem SameT.trans {H H1 H2 : Hp} (a : SameT H H1) (b : SameT H1 H2) : SameT H H2 := fun c o h => b c o (a c o h)
end L2
namespace Isl
open PySem PySem.Spec PyProof.Rows L2
abbrev iv (n : Nat) : V := .int (n : Int)
def lv (s : List Nat) : List V := s.map iv
theorem lv_len (s : List Nat) : (lv s).length = s.length := List.length_map _
theorem lv_get {s : List Nat} {i : Nat} (h : i < s.length) : (lv s)[i]? = some (iv (s.getD i 0)) := by
  unfold lv
  rw [List.getElem?_map, List.getD_eq_getElem?_getD, List.getElem?_eq_getElem h]
  rfl
theorem lv_set (s : List Nat) (i n : Nat) : (lv s).set i (iv n) = lv (s.set i n) := by
  unfold lv; rw [List.map_set]
abbrev pv2 (p : Nat × Nat) : List V := [iv p.1, iv p.2]
/-- the tuples at ts are the pairs ps -/
def TupsAt (H : Hp) (ts : List Addr) (ps : List (Nat × Nat)) : Prop := Paired (fun t p => H t = some (.tup (pv2 p))) ts ps
theorem TupsAt.same {H H' : Hp} {ts : List Addr} {ps : List (Nat × Nat)} (h : TupsAt H ts ps) (s : SameT H H') : TupsAt H' ts ps := Paired.mapP h fun _ _ q => s _ _ q
theorem TupsAt.get {H : Hp} {ts : List Addr} {ps : List (Nat × Nat)} (h : TupsAt H ts ps) {i : Nat} {t : Addr} (e : ts[i]? = some t) : ∃ p, ps[i]? = some p ∧ H t = some (.tup (pv2 p)) := paired_get h e
/-- an entry of the rules' dict -/
def RuleKv (H : Hp) (kv : List Key × V) (r : Uw78.Rule) : Prop := kv.1 = [.inl (r.a : Int), .inl (r.b : Int)] ∧ ∃ q, kv.2 = .ref q ∧ H q = some (.tup [iv r.c, iv r.d])
structure RulesAt (H : Hp) (d : Addr) (rs : List Uw78.Rule) : Prop where
  ex : ∃ kvs, H d = some (.dT kvs) ∧ Paired (RuleKv H) kvs rs
theorem RulesAt.move {H H' : Hp} {d : Addr} {rs : List Uw78.Rule} (h : RulesAt H d rs) (s : SameT H H') (k : ∀ kvs, H d = some (.dT kvs) → H' d = some (.dT kvs)) : RulesAt H' d rs := by
  obtain ⟨kvs, h1, h2⟩ := h.ex
  exact ⟨kvs, k _ h1, Paired.mapP h2 fun kv r ⟨e1, q, e2, e3⟩ => ⟨e1, q, e2, s _ _ e3⟩⟩
def top (i : Nat) : Stmt := PySem.Challenge.pw_chameleons_s01_answers.main.body.getD i (.Pass ⟨0, 0, 0, 0⟩)
abbrev sOrd : Stmt := top 23
abbrev sPairs : Stmt := top 24
abbrev sUnch : Stmt := top 25
abbrev sOldR : Stmt := top 26
abbrev sThere : Stmt := top 27
abbrev sBehind : Stmt := top 28
abbrev sPoss : Stmt := top 29
abbrev sTold : Stmt := top 30
abbrev sWays : Stmt := top 31
abbrev sAhead : Stmt := top 32
abbrev sLead : Stmt := top 33
abbrev sRows : Stmt := top 34
abbrev sKeptR : Stmt := top 35
abbrev sIsl : Stmt := top 36
abbrev sEnd : Stmt := top 37
abbrev sAnsTo : Stmt := top 38
abbrev sAns : Stmt := top 39
/-! ### the promises -/
def spOrd : Sp := fun vs H Q _ => ∃ a b : Nat, vs = [iv a, iv b] ∧ ∀ p, H p = none → Q (.ref p) (upd H p (.tup (pv2 (Uw78.ordered a b))))
def spPairs : Sp := fun vs H Q _ => ∃ k : Nat, vs = [iv k] ∧ 2 ≤ k ∧ k ≤ 4 ∧ ∀ (H' : Hp) (l : Addr) (ts : List Addr), H l = none → Same H H' → H' l = some (.lst (ts.map V.ref)) → TupsAt H' ts (Uw78.twos k) → Q (.ref l) H'
def spUnch : Sp := fun vs H Q _ => ∃ k : Nat, vs = [iv k] ∧ 2 ≤ k ∧ k ≤ 4 ∧ ∀ (H' : Hp) (d : Addr), H d = none → Same H H' → RulesAt H' d (Uw78.plain k) → Q (.ref d) H'
/-- the names of Python's own that the text does not bind -/
structure Blt (mg : Str → Option Value) : Prop where
  range : mg "range" = none
  len : mg "len" = none
  list : mg "list" = none
  sum : mg "sum" = none
  tuple : mg "tuple" = none
  min : mg "min" = none
  max : mg "max" = none
section
variable {P : Program} {w : World} {K : PySem.W.Frag} {mg : Str → Option Value} {base : Heap}
theorem scOrd : FnScope ["a", "b"] ["a", "b"] (defScope sOrd) := ⟨rfl, rfl, rfl, by decide +kernel, rfl, by decide +kernel, by decide +kernel⟩
theorem ok_ord {f : Addr} {fd : FuncData} (F : Fun K "in_order" "in_order" sOrd f fd) : FnOk P w K mg base CX0 1 f fd ["a", "b"] spOrd := by
  refine F.ok scOrd (fun vs H Q E h => ?_) (fun cdv A outer s H vs Q E hr h => ?_)
  · obtain ⟨a, b, rfl, _⟩ := h
    rfl
  · obtain ⟨a, b, rfl, k⟩ := h
    refine ⟨_, pss_cons (ps_if (pt_cmpR op_le (pv 0) (pv 1) (nomark _)) (pss_one (ps_ret (pe_tup (pa_cons (pv 0) (pa_cons (pv 1) pa_nil))))) pss_nil)
      (pss_one (ps_ret (pe_tup (pa_cons (pv 1) (pa_cons (pv 0) pa_nil))))), ?_⟩
    refine ⟨_, rfl, _, rfl, _, _, rfl, rfl, _, rfl, ?_⟩
    refine ite2 (fun h => ?_) (fun h => ?_)
    · have h : a ≤ b := by have := of_decide_eq_true h; omega
      have e : Uw78.ordered a b = (a, b) := if_pos h
      rw [e] at k
      exact ⟨_, rfl, _, rfl, (by show 2 ≤ sizeLine; decide), k⟩
    · have h : ¬ a ≤ b := fun q => h (decide_eq_true (by omega))
      have e : Uw78.ordered a b = (b, a) := if_neg h
      rw [e] at k
      exact ⟨_, rfl, _, rfl, (by show 2 ≤ sizeLine; decide), k⟩
theorem scPairs : FnScope ["colours", "pairs", "a", "b"] ["colours"] (defScope sPairs) := ⟨rfl, rfl, rfl, by decide +kernel, rfl, by decide +kernel, by decide +kernel⟩
theorem ok_pairs {f : Addr} {fd : FuncData} (F : Fun K "pairs_of" "pairs_of" sPairs f fd) (B : Blt mg) : FnOk P w K mg base CX0 1 f fd ["colours"] spPairs := by
  refine F.ok scPairs (fun vs H Q E h => ?_) (fun cdv A outer s H vs Q E hr h => ?_)
  · obtain ⟨k, rfl, _⟩ := h
    rfl
  · obtain ⟨k, rfl, k2, k4, z⟩ := h
    refine ⟨_, pss_cons (ps_set (i := 1) scPairs.nd rfl (Or.inl rfl) (pe_lst pa_nil))
      (pss_cons (ps_for PassesOwn.never rfl (pi_range1 rfl B.range (pa_cons (pv 0) pa_nil)) (pg_name (i := 2) scPairs.nd rfl (Or.inl rfl))
        (pss_one (ps_for PassesOwn.never rfl (pi_range2 rfl B.range (pa_cons (pv 2) (pa_cons (pv 0) pa_nil))) (pg_name (i := 3) scPairs.nd rfl (Or.inl rfl))
          (pss_one (ps_expr (pe_bm PySem.F.plainAttrs_list PySem.F.slot_list_append PySem.F.type_list_append mt_append (pv 1) (pa_cons (pe_tup (pa_cons (pv 2) (pa_cons (pv 3) pa_nil))) pa_nil)))))))
      (pss_one (ps_ret (pv 1)))), ?_⟩
    refine ⟨Nat.zero_le _, fun l hl => ?_⟩
    refine ⟨_, rfl, (k : Int), rfl, by omega, by omega, for_range (lo := 0) (n := k) (fun i σ H' => ∃ (v2 v3 : Option V) (ts : List Addr), σ = [some (iv k), some (.ref l), v2, v3] ∧ Same H H' ∧ H' l = some (.lst (ts.map V.ref)) ∧ TupsAt H' ts (Ch.twosTo k i))
      ⟨none, none, [], rfl, Same.new hl, upd_same, .nil⟩ ?_ ?_⟩
    · rintro i σ H1 hi ⟨v2, v3, ts, rfl, s1, h1, t1⟩
      refine ⟨_, rfl, _, rfl, _, _, rfl, ⟨by omega, by omega, by omega, by omega⟩, for_range (lo := 0 + (i : Int)) (n := ((k : Int) - (0 + (i : Int))).toNat) (fun j σ H' => ∃ (v3 : Option V) (ts : List Addr), σ = [some (iv k), some (.ref l), some (.int (0 + (i : Int))), v3] ∧ Same H H' ∧ H' l = some (.lst (ts.map V.ref)) ∧ TupsAt H' ts (Ch.twosTo k i ++ (List.range j).map fun j => (i, i + j)))
        ⟨v3, ts, rfl, s1, h1, by simpa using t1⟩ ?_ ?_⟩
      · rintro j σ H2 hj ⟨v3, ts, rfl, s2, h2, t2⟩
        have tl : ts.length ≤ 1000 := by
          have e := Paired.length t2
          have e2 := Ch.twosTo_le k4 (Nat.le_of_lt hi)
          rw [List.length_append, List.length_map, List.length_range] at e
          omega
        refine ⟨_, rfl, .inl ⟨rfl, _, SqL.of h2⟩, _, rfl, _, rfl, (by show 2 ≤ sizeLine; decide), fun t ht => ?_⟩
        have nlt : l ≠ t := ne_of_none h2 ht
        refine ⟨l, _, _, rfl, rfl, (by rw [upd_ne nlt]; exact h2), (by rw [List.length_map]; exact small1000 tl), ?_⟩
        refine ⟨_, ts ++ [t], rfl, ?_, ?_, ?_⟩
        · exact (s2.put (s2.free ht)).put hl
        · rw [upd_same, List.map_append]; rfl
        · rw [List.range_succ, List.map_append, ← List.append_assoc]
          refine Paired.snoc (t2.same ?_) ?_
          · intro b xs e
            rw [upd_ne (ne_of e h2 (by intro q; cases q)), upd_ne (ne_of_none e ht)]; exact e
          · rw [upd_ne (Ne.symm nlt), upd_same]
            show some (HO.tup [V.int (0 + (i : Int)), V.int (0 + (i : Int) + (j : Int))]) = some (HO.tup [iv i, iv (i + j)])
            rw [show (0 + (i : Int) + (j : Int)) = ((i + j : Nat) : Int) by omega, show (0 + (i : Int)) = ((i : Nat) : Int) by omega]
      · rintro σ H2 ⟨v3, ts, rfl, s2, h2, t2⟩
        refine ⟨_, _, ts, rfl, s2, h2, ?_⟩
        have e : ((k : Int) - (0 + (i : Int))).toNat = k - i := by omega
        rw [e] at t2
        rw [Ch.twosTo_succ]
        exact t2
    · rintro σ H1 ⟨v2, v3, ts, rfl, s1, h1, t1⟩
      refine ⟨_, rfl, ?_⟩
      exact z _ l ts hl s1 h1 (by rw [← Ch.twosTo_all k2 k4]; exact t1)
end
end Isl

end

section
set_option Elab.async false
set_option linter.all false
set_option maxRecDepth 100000
set_option maxHeartbeats 4000000
namespace Isl
open PySem PySem.Spec PyProof.Rows L2
/-! ### the rules' dict -/
abbrev kk (a b : Nat) : List Key := [.inl (a : Int), .inl (b : Int)]
theorem kk_inj {a b c d : Nat} (h : kk a b = kk c d) : a = c ∧ b = d := by
  have h1 := Sum.inl.inj (List.cons.inj h).1
  have h2 := Sum.inl.inj (List.cons.inj (List.cons.inj h).2).1
  omega
theorem kv_none {H : Hp} : ∀ {kvs : List (List Key × V)} {rs : List Uw78.Rule}, Paired (RuleKv H) kvs rs → ∀ {a b : Nat}, (∀ r ∈ rs, ¬ (r.a = a ∧ r.b = b)) → valV kvs (kk a b) = none
  | _, _, .nil, _, _, _ => rfl
  | kv :: _, r :: _, .cons h t, a, b, hn => by
    have e : ¬ kv.1 = kk a b := fun q => hn r List.mem_cons_self (kk_inj (h.1.symm.trans q))
    rw [valV_neg e]
    exact kv_none t fun r' h' => hn r' (List.mem_cons_of_mem _ h')
theorem kv_some {H : Hp} : ∀ {kvs : List (List Key × V)} {rs : List Uw78.Rule}, Paired (RuleKv H) kvs rs → (rs.map Ch.key).Nodup → ∀ {r : Uw78.Rule}, r ∈ rs → ∃ q, valV kvs (kk r.a r.b) = some (.ref q) ∧ H q = some (.tup [iv r.c, iv r.d])
  | _, _, .nil, _, _, h => by cases h
  | kv :: _, r0 :: _, .cons h t, nd, r, hr => by
    rw [List.map_cons, List.nodup_cons] at nd
    rcases List.mem_cons.mp hr with rfl | hr
    · obtain ⟨h1, q, h2, h3⟩ := h
      exact ⟨q, by rw [valV_pos h1, h2], h3⟩
    · have e : ¬ kv.1 = kk r.a r.b := fun z => by
        obtain ⟨e1, e2⟩ := kk_inj (h.1.symm.trans z)
        exact nd.1 (List.mem_map.mpr ⟨r, hr, by show (r.a, r.b) = (r0.a, r0.b); rw [e1, e2]⟩)
      rw [valV_neg e]
      exact kv_some t nd.2 hr
theorem kv_told {H : Hp} {a b c d : Nat} {q : Addr} (hq : H q = some (.tup [iv c, iv d])) : ∀ {kvs : List (List Key × V)} {rs : List Uw78.Rule}, Paired (RuleKv H) kvs rs →
    Paired (RuleKv H) (kvs.map fun kv => if kv.1 = kk a b then (kv.1, V.ref q) else kv) (Ch.told rs (a, b) (c, d))
  | _, _, .nil => .nil
  | kv :: _, r :: _, .cons h t => by
    refine .cons ?_ (kv_told hq t)
    show RuleKv H (if kv.1 = kk a b then (kv.1, V.ref q) else kv) (if r.a = a ∧ r.b = b then ⟨a, b, c, d⟩ else r)
    by_cases e : kv.1 = kk a b
    · have e2 := kk_inj (h.1.symm.trans e)
      rw [if_pos e, if_pos e2]
      exact ⟨e, q, rfl, hq⟩
    · rw [if_neg e, if_neg (fun z => e (by rw [h.1, z.1, z.2]))]
      exact h
theorem kv_put {H : Hp} {a b c d : Nat} {q : Addr} (hq : H q = some (.tup [iv c, iv d])) {kvs : List (List Key × V)} {rs : List Uw78.Rule} (h : Paired (RuleKv H) kvs rs) (nd : (rs.map Ch.key).Nodup) {r : Uw78.Rule} (hr : r ∈ rs) (ha : r.a = a) (hb : r.b = b) :
    Paired (RuleKv H) (putK kvs (kk a b) (.ref q)) (Ch.told rs (a, b) (c, d)) := by
  unfold putK
  obtain ⟨q0, h1, _⟩ := kv_some h nd hr
  rw [ha, hb] at h1
  rw [valV_any, h1]
  exact kv_told hq h
theorem RulesAt.len {H : Hp} {d : Addr} {rs : List Uw78.Rule} {kvs : List (List Key × V)} (h : Paired (RuleKv H) kvs rs) (hl : rs.length ≤ 10) : kvs.length < sizeLine := by
  have e := Paired.length h
  rw [sizeLine_eq]; omega
theorem nth_not_before {α : Type} {l : List α} (nd : l.Nodup) {i : Nat} {x : α} (h : l[i]? = some x) : x ∉ l.take i := fun hm => by
  obtain ⟨j, hj, e⟩ := List.mem_iff_getElem.mp hm
  rw [List.getElem_take] at e
  have hj' : j < i := by rw [List.length_take] at hj; omega
  have := nd_ix nd (List.getElem?_eq_some_iff.mpr ⟨_, e⟩) h
  omega
def pr (p : Nat × Nat) : Uw78.Rule := ⟨p.1, p.2, p.1, p.2⟩
section
variable {P : Program} {w : World} {K : PySem.W.Frag} {mg : Str → Option Value} {base : Heap}
/-- a def that stands behind the top under its own name -/
structure Def (K : PySem.W.Frag) (mg : Str → Option Value) (x : Str) (st : Stmt) (ps : List Str) (f : Addr) (fd : FuncData) : Prop where
  fn : Fun K x x st f fd
  m : mg x = some (.ref f)
  b : Binds K fd ps []
theorem scUnch : FnScope ["colours", "becomes", "pair"] ["colours"] (defScope sUnch) := ⟨rfl, rfl, rfl, by decide +kernel, rfl, by decide +kernel, by decide +kernel⟩
theorem ok_unch {f fP : Addr} {fd fdP : FuncData} (F : Fun K "unchanging_rule" "unchanging_rule" sUnch f fd) (B : Blt mg) (DP : Def K mg "pairs_of" sPairs ["colours"] fP fdP) : FnOk P w K mg base CX0 2 f fd ["colours"] spUnch := by
  have GP : FnOk P w K mg base CX0 1 fP fdP ["colours"] spPairs := ok_pairs DP.fn B
  refine F.ok scUnch (fun vs H Q E h => ?_) (fun cdv A outer s H vs Q E hr h => ?_)
  · obtain ⟨k, rfl, _⟩ := h
    rfl
  · obtain ⟨k, rfl, k2, k4, z⟩ := h
    have hu := hu_of hr
    refine ⟨_, pss_cons (ps_set (i := 1) scUnch.nd rfl (Or.inl rfl) pe_dnewT)
      (pss_cons (ps_for PassesOwn.never rfl (pi_list (pe_call GP hr rfl DP.m DP.fn.kp DP.b .nil pass0 (pa_cons (pv 0) pa_nil))) (pg_name (i := 2) scUnch.nd rfl (Or.inl rfl))
        (pss_one (ps_dput hu (pv 1) (pv 2) (pv 2) rfl)))
      (pss_one (ps_ret (pv 1)))), ?_⟩
    intro d hd
    refine ⟨_, rfl, k, rfl, k2, k4, fun H1 l ts hl s1 h1 t1 => ⟨l, rfl, ⟨_, SqL.of h1⟩, ?_⟩⟩
    have s0 : Same H H1 := (Same.new hd).trans s1
    have hd1 : H1 d = some (.dT []) := s1 _ _ upd_same
    refine for_list (K := K) (a := l) (xs := ts.map V.ref) (fun i σ H' => ∃ v2 : Option V, σ = [some (iv k), some (.ref d), v2] ∧ Same H H' ∧ H' l = some (.lst (ts.map V.ref)) ∧ TupsAt H' ts (Uw78.twos k) ∧
        ∃ kvs, H' d = some (.dT kvs) ∧ Paired (RuleKv H') kvs (((Uw78.twos k).take i).map pr))
      ⟨none, rfl, s0, h1, t1, [], hd1, .nil⟩ (fun i σ H' _ ⟨_, _, _, q, _⟩ => SqL.of q) ?_ ?_
    · rintro i x σ H' hi ⟨v2, rfl, s2, h2, t2, kvs, d2, r2⟩
      rw [List.getElem?_map] at hi
      cases e : ts[i]? with
      | none => rw [e] at hi; cases hi
      | some t =>
        rw [e] at hi
        cases hi
        obtain ⟨p, hp, ht⟩ := t2.get e
        have nd := Ch.twos_nodup k2 k4
        have hv : valV kvs (kk p.1 p.2) = none := kv_none r2 fun r hr => by
          obtain ⟨p', hp', rfl⟩ := List.mem_map.mp hr
          rintro ⟨e1, e2⟩
          have e3 : p' = p := Prod.ext e1 e2
          exact nth_not_before nd hp (e3 ▸ hp')
        have hlen : kvs.length < sizeLine := by
          have q1 := Paired.length r2
          have q2 := Ch.twos_len k2 k4
          rw [List.length_map, List.length_take] at q1
          rw [sizeLine_eq]; omega
        refine ⟨_, rfl, _, rfl, _, rfl, d, _, rfl, DPut.t (k := kk p.1 p.2) d2 ht hlen, ?_⟩
        have nld : l ≠ d := ne_of h2 d2 (by intro q; cases q)
        have st : SameT H' (upd H' d (.dT (putK kvs (kk p.1 p.2) (.ref t)))) := fun b xs q => by
          rw [upd_ne (ne_of q d2 (by intro q; cases q))]; exact q
        refine ⟨_, rfl, s2.put hd, (by rw [upd_ne nld]; exact h2), t2.same st, _, upd_same, ?_⟩
        rw [putK_new _ hv] at st ⊢
        rw [List.take_add_one, hp, List.map_append]
        exact Paired.snoc (Paired.mapP r2 fun kv r ⟨e1, q, e2, e3⟩ => ⟨e1, q, e2, st _ _ e3⟩) ⟨rfl, t, rfl, st _ _ ht⟩
    · rintro σ H' ⟨v2, rfl, s2, h2, t2, kvs, d2, r2⟩
      refine ⟨_, rfl, ?_⟩
      refine z _ d hd s2 ⟨kvs, d2, ?_⟩
      have e : (ts.map V.ref).length = (Uw78.twos k).length := by rw [List.length_map, Paired.length t2]
      rw [e, List.take_length] at r2
      exact r2
end
end Isl

end

section
set_option Elab.async false
set_option linter.all false
set_option maxRecDepth 100000
set_option maxHeartbeats 4000000
namespace Isl
open PySem PySem.Spec PyProof.Rows L2
/-- a whole number that the top binds -/
def Num (mg : Str → Option Value) (x : Str) (n : Int) : Prop := ∃ t, mg x = some (.int n t)
def spOldR : Sp := fun vs H Q _ => vs = [] ∧ ∀ (H' : Hp) (d : Addr), H d = none → Same H H' → RulesAt H' d Uw78.oldRules → Q (.ref d) H'
def spThere : Sp := fun vs H Q _ => ∃ (s p : Addr) (st : List Nat) (a b : Nat), vs = [.ref s, .ref p] ∧ H s = some (.tup (lv st)) ∧ H p = some (.tup (pv2 (a, b))) ∧ a < st.length ∧ b < st.length ∧ Q (.bl (Uw78.areThere st a b)) H
def spBehind : Sp := fun vs H Q _ => ∃ (s p c : Addr) (st : List Nat) (r : Uw78.Rule), vs = [.ref s, .ref p, .ref c] ∧ H s = some (.tup (lv st)) ∧ H p = some (.tup (pv2 (r.a, r.b))) ∧ H c = some (.tup (pv2 (r.c, r.d))) ∧
  r.a < st.length ∧ r.b < st.length ∧ r.c < st.length ∧ r.d < st.length ∧ Uw78.areThere st r.a r.b = true ∧ ∀ (H' : Hp) (l : Addr), H l = none → Same H H' → H' l = some (.tup (lv (Uw78.behind st r))) → Q (.ref l) H'
theorem lv_less {st : List Nat} {c : Nat} (h : 1 ≤ st.getD c 0) : (lv st).set c (.int (((st.getD c 0 : Nat) : Int) - 1)) = lv (Uw78.less st c) := by
  unfold Uw78.less
  rw [← lv_set, show ((st.getD c 0 : Nat) : Int) - 1 = ((st.getD c 0 - 1 : Nat) : Int) by omega]
theorem lv_more (st : List Nat) (c : Nat) : (lv st).set c (.int (((st.getD c 0 : Nat) : Int) + 1)) = lv (Uw78.more st c) := by
  unfold Uw78.more
  rw [← lv_set]
  rfl
theorem ixN_nat {n j : Nat} (h : j < n) : ixN n (j : Int) = some j := by
  unfold ixN
  rw [if_pos (by omega), if_pos (by omega)]
  rfl
section
variable {P : Program} {w : World} {K : PySem.W.Frag} {mg : Str → Option Value} {base : Heap}
theorem scOldR : FnScope ["becomes", "pair", "third"] [] (defScope sOldR) := ⟨rfl, rfl, rfl, by decide +kernel, rfl, by decide +kernel, by decide +kernel⟩
theorem ok_oldr {f fP fU : Addr} {fd fdP fdU : FuncData} (F : Fun K "old_rule" "old_rule" sOldR f fd) (B : Blt mg) (DP : Def K mg "pairs_of" sPairs ["colours"] fP fdP) (DU : Def K mg "unchanging_rule" sUnch ["colours"] fU fdU) (n3 : Num mg "OLD_COLOURS" 3) :
    FnOk P w K mg base CX0 3 f fd [] spOldR := by
  have GP : FnOk P w K mg base CX0 1 fP fdP ["colours"] spPairs := ok_pairs DP.fn B
  have GU : FnOk P w K mg base CX0 2 fU fdU ["colours"] spUnch := ok_unch DU.fn B DP
  obtain ⟨t3, n3⟩ := n3
  refine F.ok scOldR (fun vs H Q E h => ?_) (fun cdv A outer s H vs Q E hr h => ?_)
  · obtain ⟨rfl, _⟩ := h
    rfl
  · obtain ⟨rfl, z⟩ := h
    have hu := hu_of hr
    have hr1 := hr.mono (show 1 ≤ 2 by decide)
    refine ⟨_, pss_cons (ps_set (i := 0) scOldR.nd rfl (Or.inl rfl) (pe_call GU hr rfl DU.m DU.fn.kp DU.b .nil pass0 (pa_cons (pe_glob rfl n3 (v := .int 3) ⟨_, rfl⟩) pa_nil)))
      (pss_cons (ps_for PassesOwn.never rfl (pi_list (pe_call GP hr1 rfl DP.m DP.fn.kp DP.b .nil pass0 (pa_cons (pe_glob rfl n3 (v := .int 3) ⟨_, rfl⟩) pa_nil))) (pg_name (i := 1) scOldR.nd rfl (Or.inl rfl))
        (pss_one (ps_if (pt_cmpR op_ne (pe_ix ix_tup (pv 1) pe_int (fun _ _ => rfl)) (pe_ix ix_tup (pv 1) pe_int (fun _ _ => rfl)) (nomark _))
          (pss_cons (ps_set (i := 2) scOldR.nd rfl (Or.inl rfl) (pe_op op_sub (pe_op op_sub pe_int (pe_ix ix_tup (pv 1) pe_int (fun _ _ => rfl))) (pe_ix ix_tup (pv 1) pe_int (fun _ _ => rfl))))
            (pss_one (ps_dput hu (pv 0) (pv 1) (pe_tup (pa_cons (pv 2) (pa_cons (pv 2) pa_nil))) rfl)))
          pss_nil)))
      (pss_one (ps_ret (pv 0)))), ?_⟩
    refine ⟨3, rfl, by decide, by decide, fun H1 d hd s1 r1 => ?_⟩
    refine ⟨3, rfl, by decide, by decide, fun H2 l ts hl s2 h2 t2 => ⟨l, rfl, ⟨_, SqL.of h2⟩, ?_⟩⟩
    refine for_list (K := K) (a := l) (xs := ts.map V.ref) (fun i σ H' => ∃ v1 v2 : Option V, σ = [some (.ref d), v1, v2] ∧ Same H H' ∧ H' l = some (.lst (ts.map V.ref)) ∧ TupsAt H' ts (Uw78.twos 3) ∧ RulesAt H' d (Ch.oldTo i))
      ⟨none, none, rfl, s1.trans s2, h2, t2, r1.move s2.t (fun kvs e => s2 _ _ e)⟩ (fun i σ H' _ ⟨_, _, _, _, q, _⟩ => SqL.of q) ?_ ?_
    · rintro i x σ H' hi ⟨v1, v2, rfl, s3, h3, t3', r3⟩
      rw [List.getElem?_map] at hi
      cases e : ts[i]? with
      | none => rw [e] at hi; cases hi
      | some t =>
        rw [e] at hi
        cases hi
        obtain ⟨p, hp, ht⟩ := t3'.get e
        obtain ⟨kvs, d3, p3⟩ := r3.ex
        have hpm : p.1 ≤ p.2 ∧ p.2 < 3 := Ch.mem_twos.mp (List.mem_of_getElem? hp)
        refine ⟨_, rfl, t, _, _, _, rfl, rfl, SqT.of ht, atI_nat (j := 0) rfl, _, rfl, t, _, _, _, rfl, rfl, SqT.of ht, atI_nat (j := 1) rfl, rfl, _, rfl, ?_⟩
        by_cases hne : p.1 = p.2
        · have e1 : (!decide (iv p.1 = iv p.2)) = false := by rw [hne]; simp
          rw [e1]
          refine iteF ?_
          exact ⟨_, _, rfl, s3, h3, t3', by rw [Ch.oldTo_eq hp hne]; exact r3⟩
        · have e1 : (!decide (iv p.1 = iv p.2)) = true := by
            rw [decide_eq_false (fun q => hne (by injection q with q; omega))]; rfl
          rw [e1]
          refine iteT ?_
          refine ⟨_, rfl, t, _, _, _, rfl, rfl, SqT.of ht, atI_nat (j := 0) rfl, _, _, rfl, rfl, _, rfl, t, _, _, _, rfl, rfl, SqT.of ht, atI_nat (j := 1) rfl, _, _, rfl, rfl, ?_⟩
          refine ⟨_, rfl, _, rfl, (by show 2 ≤ sizeLine; decide), fun q hq => ?_⟩
          have nq : ∀ b o, H' b = some o → b ≠ q := fun b o e => ne_of_none e hq
          have d4 : (upd H' q (.tup [V.int (3 - (p.1 : Int) - (p.2 : Int)), V.int (3 - (p.1 : Int) - (p.2 : Int))])) d = some (.dT kvs) := by rw [upd_ne (nq _ _ d3)]; exact d3
          have t4 : (upd H' q (.tup [V.int (3 - (p.1 : Int) - (p.2 : Int)), V.int (3 - (p.1 : Int) - (p.2 : Int))])) t = some (.tup (pv2 p)) := by rw [upd_ne (nq _ _ ht)]; exact ht
          have hlen : kvs.length < sizeLine := by
            have q1 := Paired.length p3
            have q2 := Ch.oldTo_len i
            rw [sizeLine_eq]; omega
          refine ⟨_, rfl, _, rfl, d, _, rfl, DPut.t (k := kk p.1 p.2) d4 t4 hlen, ?_⟩
          have st1 : Same H' (upd H' q (.tup [V.int (3 - (p.1 : Int) - (p.2 : Int)), V.int (3 - (p.1 : Int) - (p.2 : Int))])) := Same.new hq
          have st : SameT H' (upd (upd H' q (.tup [V.int (3 - (p.1 : Int) - (p.2 : Int)), V.int (3 - (p.1 : Int) - (p.2 : Int))])) d (.dT (putK kvs (kk p.1 p.2) (.ref q)))) := fun b xs e => by
            rw [upd_ne (ne_of e d3 (by intro q; cases q))]; exact st1 _ _ e
          refine ⟨_, _, rfl, ?_, ?_, t3'.same st, ?_⟩
          · exact (s3.put (s3.free hq)).put hd
          · rw [upd_ne (ne_of h3 d3 (by intro q; cases q))]; exact st1 _ _ h3
          · rw [Ch.oldTo_ne hp hne]
            refine ⟨_, upd_same, ?_⟩
            have p4 : Paired (RuleKv (upd (upd H' q (.tup [V.int (3 - (p.1 : Int) - (p.2 : Int)), V.int (3 - (p.1 : Int) - (p.2 : Int))])) d (.dT (putK kvs (kk p.1 p.2) (.ref q))))) kvs (Ch.oldTo i) :=
              Paired.mapP p3 fun kv r ⟨e1, q, e2, e3⟩ => ⟨e1, q, e2, st _ _ e3⟩
            have hm : p ∈ (Ch.oldTo i).map Ch.key := by rw [Ch.oldTo_keys]; exact List.mem_of_getElem? hp
            obtain ⟨r, hr', er⟩ := List.mem_map.mp hm
            have ea : r.a = p.1 := congrArg Prod.fst er
            have eb : r.b = p.2 := congrArg Prod.snd er
            refine kv_put ?_ p4 (by rw [Ch.oldTo_keys]; exact Ch.twos_nodup (by decide) (by decide)) hr' ea eb
            have ndq : q ≠ d := fun z => by rw [z] at hq; rw [hq] at d3; cases d3
            rw [upd_ne ndq, upd_same]
            show some (HO.tup [V.int (3 - (p.1 : Int) - (p.2 : Int)), V.int (3 - (p.1 : Int) - (p.2 : Int))]) = _
            rw [show (3 - (p.1 : Int) - (p.2 : Int)) = ((3 - p.1 - p.2 : Nat) : Int) by omega]
    · rintro σ H' ⟨v1, v2, rfl, s3, h3, t3', r3⟩
      refine ⟨_, rfl, ?_⟩
      have e : (ts.map V.ref).length = 6 := by rw [List.length_map, Paired.length t3']; rfl
      rw [e, Ch.oldTo_all] at r3
      exact z _ d hd s3 r3
theorem scThere : FnScope ["stand", "pair"] ["stand", "pair"] (defScope sThere) := ⟨rfl, rfl, rfl, by decide +kernel, rfl, by decide +kernel, by decide +kernel⟩
theorem ok_there {f : Addr} {fd : FuncData} (F : Fun K "are_there" "are_there" sThere f fd) : FnOk P w K mg base CX0 1 f fd ["stand", "pair"] spThere := by
  refine F.ok scThere (fun vs H Q E h => ?_) (fun cdv A outer s H vs Q E hr h => ?_)
  · obtain ⟨_, _, _, _, _, rfl, _⟩ := h
    rfl
  · obtain ⟨sa, p, st, a, b, rfl, hs, hp, ha, hb, k⟩ := h
    refine ⟨_, pss_cons (ps_if (pt_cmpR op_eq (pe_ix ix_tup (pv 1) pe_int (fun _ _ => rfl)) (pe_ix ix_tup (pv 1) pe_int (fun _ _ => rfl)) (nomark _))
        (pss_one (ps_ret (pe_cmpR op_ge (pe_ix ix_tup (pv 0) (pe_ix ix_tup (pv 1) pe_int (fun _ _ => rfl)) (fun _ _ => rfl)) pe_int (nomark _)))) pss_nil)
      (pss_one (ps_ret (pe_and (pe_cmpR op_ge (pe_ix ix_tup (pv 0) (pe_ix ix_tup (pv 1) pe_int (fun _ _ => rfl)) (fun _ _ => rfl)) pe_int (nomark _))
        (pe_one (pe_cmpR op_ge (pe_ix ix_tup (pv 0) (pe_ix ix_tup (pv 1) pe_int (fun _ _ => rfl)) (fun _ _ => rfl)) pe_int (nomark _)))))), ?_⟩
    refine ⟨_, rfl, p, _, _, _, rfl, rfl, SqT.of hp, atI_nat (j := 0) rfl, _, rfl, p, _, _, _, rfl, rfl, SqT.of hp, atI_nat (j := 1) rfl, rfl, _, rfl, ?_⟩
    rw [Ch.areThere_eq ha] at k
    by_cases e : a = b
    · rw [decide_eq_true (show iv a = iv b by rw [e])]
      refine iteT ?_
      rw [if_pos e] at k
      refine ⟨_, rfl, _, rfl, p, _, _, _, rfl, rfl, SqT.of hp, atI_nat (j := 0) rfl, sa, _, _, _, rfl, rfl, SqT.of hs, atI_nat (lv_get ha), _, _, rfl, rfl, ?_⟩
      have e2 : decide ((2 : Int) ≤ ((st.getD a 0 : Nat) : Int)) = decide (2 ≤ st.getD a 0) := by rw [decide_eq_decide]; omega
      show Q (.bl (decide ((2 : Int) ≤ ((st.getD a 0 : Nat) : Int)))) H
      rw [e2]; exact k
    · rw [decide_eq_false (show ¬ iv a = iv b from fun q => e (by injection q with q; omega))]
      refine iteF ?_
      rw [if_neg e] at k
      have e2 : ∀ c, decide ((1 : Int) ≤ ((st.getD c 0 : Nat) : Int)) = decide (1 ≤ st.getD c 0) := fun c => by rw [decide_eq_decide]; omega
      refine ⟨_, rfl, _, rfl, p, _, _, _, rfl, rfl, SqT.of hp, atI_nat (j := 0) rfl, sa, _, _, _, rfl, rfl, SqT.of hs, atI_nat (lv_get ha), _, _, rfl, rfl, decide ((1 : Int) ≤ ((st.getD a 0 : Nat) : Int)), rfl, ?_⟩
      rw [e2]
      by_cases h1 : 1 ≤ st.getD a 0
      · rw [decide_eq_true h1] at k ⊢
        refine iteT ?_
        refine ⟨_, rfl, _, rfl, p, _, _, _, rfl, rfl, SqT.of hp, atI_nat (j := 1) rfl, sa, _, _, _, rfl, rfl, SqT.of hs, atI_nat (lv_get hb), _, _, rfl, rfl, ?_⟩
        show Q (.bl (decide ((1 : Int) ≤ ((st.getD b 0 : Nat) : Int)))) H
        rw [e2]; exact k
      · rw [decide_eq_false h1] at k ⊢
        refine iteF ?_
        exact k
theorem scBehind : FnScope ["stand", "pair", "changed", "behind", "colour"] ["stand", "pair", "changed"] (defScope sBehind) := ⟨rfl, rfl, rfl, by decide +kernel, rfl, by decide +kernel, by decide +kernel⟩
theorem ok_behind {f : Addr} {fd : FuncData} (F : Fun K "stand_behind" "stand_behind" sBehind f fd) (B : Blt mg) : FnOk P w K mg base CX0 1 f fd ["stand", "pair", "changed"] spBehind := by
  refine F.ok scBehind (fun vs H Q E h => ?_) (fun cdv A outer s H vs Q E hr h => ?_)
  · obtain ⟨_, _, _, _, _, rfl, _⟩ := h
    rfl
  · obtain ⟨sa, p, c, st, r, rfl, hs, hp, hc, la, lb, lc, ld, ht, z⟩ := h
    obtain ⟨w1, w2⟩ := Ch.areThere_two ht
    refine ⟨_, pss_cons (ps_set (i := 3) scBehind.nd rfl (Or.inl rfl) (pe_callTy call_list_of rfl B.list PyProof.Rows.boot_list (pa_cons (pv 0) pa_nil)))
      (pss_cons (ps_for PassesOwn.never rfl (pi_tup (pv 1)) (pg_name (i := 4) scBehind.nd rfl (Or.inl rfl)) (pss_one (ps_augS (pv 3) (pv 4) get_list pe_int ip_sub set_list)))
      (pss_cons (ps_for PassesOwn.never rfl (pi_tup (pv 2)) (pg_name (i := 4) scBehind.nd rfl (Or.inl rfl)) (pss_one (ps_augS (pv 3) (pv 4) get_list pe_int ip_add set_list)))
      (pss_one (ps_ret (pe_callTy call_tuple_of rfl B.tuple PyProof.Rows.boot_tuple (pa_cons (pv 3) pa_nil)))))), ?_⟩
    refine ⟨_, rfl, sa, _, rfl, .inr (SqT.of hs), fun l hl => ?_⟩
    have nlp : p ≠ l := ne_of_none hp hl
    have nlc : c ≠ l := ne_of_none hc hl
    refine ⟨_, rfl, p, rfl, ⟨_, SqT.of (by rw [upd_ne nlp]; exact hp)⟩, for_tup (K := K) (a := p) (xs := lv [r.a, r.b]) (fun i σ H' => ∃ v4 : Option V, σ = [some (.ref sa), some (.ref p), some (.ref c), some (.ref l), v4] ∧ Same H H' ∧ H' l = some (.lst (lv (([r.a, r.b].take i).foldl Uw78.less st))))
      ⟨none, rfl, Same.new hl, upd_same⟩ (fun i σ H' _ ⟨_, _, s2, _⟩ => SqT.of (s2 _ _ hp)) ?_ ?_⟩
    · rintro i x σ H' hi ⟨v4, rfl, s2, h2⟩
      unfold lv at hi
      rw [List.getElem?_map] at hi
      cases e : ([r.a, r.b])[i]? with
      | none => rw [e] at hi; cases hi
      | some cc =>
        rw [e] at hi
        cases hi
        have hcc : cc < (([r.a, r.b].take i).foldl Uw78.less st).length ∧ 1 ≤ (([r.a, r.b].take i).foldl Uw78.less st).getD cc 0 := by
          rw [Ch.fold_less_len]
          match i, e with
          | 0, e => cases e; exact ⟨la, w1⟩
          | 1, e => cases e; exact ⟨lb, w2⟩
        refine ⟨_, rfl, _, rfl, l, _, _, _, rfl, rfl, SqL.of h2, atI_nat (lv_get hcc.1), _, _, rfl, rfl, l, _, _, cc, rfl, rfl, h2, ixN_nat (by rw [lv_len]; exact hcc.1), ?_⟩
        refine ⟨_, rfl, s2.put hl, ?_⟩
        rw [upd_same, Ch.fold_take Uw78.less e]
        exact congrArg (fun z => some (HO.lst z)) (lv_less hcc.2)
    · rintro σ H2 ⟨v4, rfl, s2, h2⟩
      have h2 : H2 l = some (.lst (lv (Uw78.less (Uw78.less st r.a) r.b))) := h2
      refine ⟨_, rfl, c, rfl, ⟨_, SqT.of (s2 _ _ hc)⟩, for_tup (K := K) (a := c) (xs := lv [r.c, r.d]) (fun i σ H' => ∃ v4 : Option V, σ = [some (.ref sa), some (.ref p), some (.ref c), some (.ref l), v4] ∧ Same H H' ∧ H' l = some (.lst (lv (([r.c, r.d].take i).foldl Uw78.more (Uw78.less (Uw78.less st r.a) r.b)))))
        ⟨v4, rfl, s2, h2⟩ (fun i σ H' _ ⟨_, _, s3, _⟩ => SqT.of (s3 _ _ hc)) ?_ ?_⟩
      · rintro i x σ H' hi ⟨v4, rfl, s3, h3⟩
        unfold lv at hi
        rw [List.getElem?_map] at hi
        cases e : ([r.c, r.d])[i]? with
        | none => rw [e] at hi; cases hi
        | some cc =>
          rw [e] at hi
          cases hi
          have hcc : cc < (([r.c, r.d].take i).foldl Uw78.more (Uw78.less (Uw78.less st r.a) r.b)).length := by
            rw [Ch.fold_more_len, Ch.less_len, Ch.less_len]
            match i, e with
            | 0, e => cases e; exact lc
            | 1, e => cases e; exact ld
          refine ⟨_, rfl, _, rfl, l, _, _, _, rfl, rfl, SqL.of h3, atI_nat (lv_get hcc), _, _, rfl, rfl, l, _, _, cc, rfl, rfl, h3, ixN_nat (by rw [lv_len]; exact hcc), ?_⟩
          refine ⟨_, rfl, s3.put hl, ?_⟩
          rw [upd_same, Ch.fold_take Uw78.more e]
          exact congrArg (fun z => some (HO.lst z)) (lv_more _ _)
      · rintro σ H3 ⟨v4, rfl, s3, h3⟩
        refine ⟨_, rfl, l, _, rfl, .inl ⟨SqL.of h3, fun q hq => ?_⟩⟩
        exact z _ q (s3.free hq) (s3.trans (Same.new hq)) upd_same
end
end Isl

end

section
set_option Elab.async false
set_option linter.all false
set_option maxRecDepth 100000
set_option maxHeartbeats 4000000
namespace Isl
open PySem PySem.Spec PyProof.Rows L2
theorem ne_pair (r : Uw78.Rule) : (!PyData.eqv (.tuple [.int (r.c : Int), .int (r.d : Int)]) (.tuple [.int (r.a : Int), .int (r.b : Int)])) = Uw78.changes r := by
  rw [Ch.changes_iff]
  have e : PyData.eqv (.tuple [.int (r.c : Int), .int (r.d : Int)]) (.tuple [.int (r.a : Int), .int (r.b : Int)]) = (((r.c : Int) == (r.a : Int)) && (((r.d : Int) == (r.b : Int)) && true)) := rfl
  rw [e, Bool.and_true]
  congr 1
  have h : ∀ a b : Nat, ((a : Int) == (b : Int)) = decide (a = b) := fun a b => by
    rw [Bool.beq_eq_decide_eq, decide_eq_decide]; omega
  rw [h, h]
def spPoss : Sp := fun vs H Q _ => ∃ (d s : Addr) (rs : List Uw78.Rule) (st : List Nat) (k : Nat), vs = [.ref d, .ref s] ∧ RulesAt H d rs ∧ H s = some (.tup (lv st)) ∧ st.length = k ∧ 2 ≤ k ∧ k ≤ 4 ∧ rs.map Ch.key = Uw78.twos k ∧
  ∀ (H' : Hp) (l : Addr) (ts : List Addr), H l = none → Same H H' → H' l = some (.lst (ts.map V.ref)) → TupsAt H' ts ((Uw78.may rs st).map Ch.key) → Q (.ref l) H'
section
variable {P : Program} {w : World} {K : PySem.W.Frag} {mg : Str → Option Value} {base : Heap}
theorem scPoss : FnScope ["becomes", "stand", "possible", "pair"] ["becomes", "stand"] (defScope sPoss) := ⟨rfl, rfl, rfl, by decide +kernel, rfl, by decide +kernel, by decide +kernel⟩
theorem ok_poss {f fP fT : Addr} {fd fdP fdT : FuncData} (F : Fun K "possible_meetings" "possible_meetings" sPoss f fd) (B : Blt mg) (DP : Def K mg "pairs_of" sPairs ["colours"] fP fdP) (DT : Def K mg "are_there" sThere ["stand", "pair"] fT fdT) :
    FnOk P w K mg base CX0 2 f fd ["becomes", "stand"] spPoss := by
  have GP : FnOk P w K mg base CX0 1 fP fdP ["colours"] spPairs := ok_pairs DP.fn B
  have GT : FnOk P w K mg base CX0 1 fT fdT ["stand", "pair"] spThere := ok_there DT.fn
  refine F.ok scPoss (fun vs H Q E h => ?_) (fun cdv A outer s H vs Q E hr h => ?_)
  · obtain ⟨_, _, _, _, _, rfl, _⟩ := h
    rfl
  · obtain ⟨d, sa, rs, st, k, rfl, hR, hs, hk, k2, k4, hkeys, z⟩ := h
    have hu := hu_of hr
    have hu64 := hr.units
    refine ⟨_, pss_cons (ps_set (i := 2) scPoss.nd rfl (Or.inl rfl) (pe_lst pa_nil))
      (pss_cons (ps_for PassesOwn.never rfl (pi_list (pe_call GP hr rfl DP.m DP.fn.kp DP.b .nil pass0 (pa_cons (pe_callB call_len_seq (by rfl) B.len PySem.boot_len (pa_cons (pv 1) pa_nil)) pa_nil))) (pg_name (i := 3) scPoss.nd rfl (Or.inl rfl))
        (pss_one (ps_if (PW.pt (pw_and (pt_val (pe_call GT hr rfl DT.m DT.fn.kp DT.b .nil pass0 (pa_cons (pv 1) (pa_cons (pv 3) pa_nil)))) (pw_and1 (pt_cmpR (op_neD hu64) (pe_dget hu (pv 0) (pv 3) (fun _ _ => rfl)) (pv 3) (nomark _)))))
          (pss_one (ps_expr (pe_bm PySem.F.plainAttrs_list PySem.F.slot_list_append PySem.F.type_list_append mt_append (pv 2) (pa_cons (pv 3) pa_nil))))
          pss_nil)))
      (pss_one (ps_ret (pv 2)))), ?_⟩
    refine ⟨Nat.zero_le _, fun l hl => ?_⟩
    have s0 : Same H (upd H l (.lst [])) := Same.new hl
    refine ⟨_, rfl, sa, _, rfl, .inr (SqT.of (s0 _ _ hs)), k, (by rw [lv_len, hk]; rfl), k2, k4, fun H1 lp ts hlp s1 h1 t1 => ⟨lp, rfl, ⟨_, SqL.of h1⟩, ?_⟩⟩
    have hl1 : H1 l = some (.lst []) := s1 _ _ upd_same
    have nll : l ≠ lp := ne_of_none (upd_same (H := H) (a := l) (o := .lst [])) hlp
    refine for_list (K := K) (a := lp) (xs := ts.map V.ref) (fun i σ H' => ∃ (v3 : Option V) (qs : List Addr), σ = [some (.ref d), some (.ref sa), some (.ref l), v3] ∧ Same H H' ∧ H' lp = some (.lst (ts.map V.ref)) ∧ TupsAt H' ts (Uw78.twos k) ∧
        H' l = some (.lst (qs.map V.ref)) ∧ TupsAt H' qs (((rs.take i).filter fun r => Uw78.changes r && Uw78.areThere st r.a r.b).map Ch.key))
      ⟨none, [], rfl, s0.trans s1, h1, t1, hl1, .nil⟩ (fun i σ H' _ ⟨_, _, _, _, q, _⟩ => SqL.of q) ?_ ?_
    · rintro i x σ H' hi ⟨v3, qs, rfl, s2, h2, t2, l2, q2⟩
      rw [List.getElem?_map] at hi
      cases e : ts[i]? with
      | none => rw [e] at hi; cases hi
      | some t =>
        rw [e] at hi
        cases hi
        obtain ⟨p, hp, ht⟩ := t2.get e
        have hpm : p.1 ≤ p.2 ∧ p.2 < k := Ch.mem_twos.mp (List.mem_of_getElem? hp)
        rw [← hkeys, List.getElem?_map] at hp
        cases er : rs[i]? with
        | none => rw [er] at hp; cases hp
        | some r =>
          rw [er] at hp
          cases hp
          have hrm : r ∈ rs := List.mem_of_getElem? er
          have R2 := hR.move s2.t (fun kvs e => s2 _ _ e)
          obtain ⟨kvs, d2, p2⟩ := R2.ex
          obtain ⟨q, hv, hq⟩ := kv_some p2 (by rw [hkeys]; exact Ch.twos_nodup k2 k4) hrm
          have g : DGet H' d (.ref t) (some (.ref q)) := by
            rw [← hv]; exact DGet.t (k := kk r.a r.b) d2 ht
          have ql : qs.length ≤ 1000 := by
            have e1 := Paired.length q2
            rw [List.length_map] at e1
            have e2 := List.length_filter_le (fun r => Uw78.changes r && Uw78.areThere st r.a r.b) (rs.take i)
            have e3 : rs.length ≤ 10 := by
              have := congrArg List.length hkeys
              rw [List.length_map] at this
              rw [this]; exact Ch.twos_len k2 k4
            rw [List.length_take] at e2
            omega
          have tk : ((rs.take (i + 1)).filter fun r => Uw78.changes r && Uw78.areThere st r.a r.b).map Ch.key = ((rs.take i).filter fun r => Uw78.changes r && Uw78.areThere st r.a r.b).map Ch.key ++ (if (Uw78.changes r && Uw78.areThere st r.a r.b) = true then [Ch.key r] else []) := by
            rw [List.take_add_one, er, List.filter_append, List.map_append]
            congr 1
            show (List.filter _ [r]).map Ch.key = _
            rw [List.filter_cons]
            split <;> rfl
          have skip : (Uw78.changes r && Uw78.areThere st r.a r.b) = false → ∃ (v3 : Option V) (qs : List Addr), [some (.ref d), some (.ref sa), some (.ref l), some (.ref t)] = [some (V.ref d), some (.ref sa), some (.ref l), v3] ∧ Same H H' ∧ H' lp = some (.lst (ts.map V.ref)) ∧ TupsAt H' ts (Uw78.twos k) ∧
              H' l = some (.lst (qs.map V.ref)) ∧ TupsAt H' qs (((rs.take (i + 1)).filter fun r => Uw78.changes r && Uw78.areThere st r.a r.b).map Ch.key) := fun hf => by
            refine ⟨_, qs, rfl, s2, h2, t2, l2, ?_⟩
            rw [tk, hf, if_neg Bool.false_ne_true, List.append_nil]
            exact q2
          refine ⟨_, rfl, _, rfl, sa, t, st, r.a, r.b, rfl, s2 _ _ hs, ht, by rw [hk]; exact Nat.lt_of_le_of_lt hpm.1 hpm.2, by rw [hk]; exact hpm.2, _, rfl, ?_⟩
          cases ea : Uw78.areThere st r.a r.b with
          | false =>
            refine iteF (iteF ?_)
            exact skip (by rw [ea, Bool.and_false])
          | true =>
            refine iteT ?_
            refine ⟨_, rfl, _, rfl, d, _, rfl, g, _, rfl, _, _, .tup (SqT.of hq) (.cons (.int _) (.cons (.int _) .nil)), .tup (SqT.of ht) (.cons (.int _) (.cons (.int _) .nil)), rfl, rfl, _, rfl, ?_⟩
            have e1 : (!PyData.eqv (.tuple [.int (r.c : Int), .int (r.d : Int)]) (.tuple [.int ((Ch.key r).1 : Int), .int ((Ch.key r).2 : Int)])) = Uw78.changes r := ne_pair r
            rw [e1]
            cases ec : Uw78.changes r with
            | false =>
              refine iteF ?_
              exact skip (by rw [ec, Bool.false_and])
            | true =>
              refine iteT ?_
              refine ⟨_, rfl, .inl ⟨rfl, _, SqL.of l2⟩, _, rfl, l, _, _, rfl, rfl, l2, (by rw [List.length_map]; exact small1000 ql), ?_⟩
              have st2 : SameT H' (upd H' l (.lst (qs.map V.ref ++ [.ref t]))) := fun b xs q => by
                rw [upd_ne (ne_of q l2 (by intro q; cases q))]; exact q
              have nlp : lp ≠ l := fun z => nll z.symm
              refine ⟨_, qs ++ [t], rfl, s2.put hl, (by rw [upd_ne nlp]; exact h2), t2.same st2, ?_, ?_⟩
              · rw [upd_same, List.map_append]; rfl
              · rw [tk, ec, ea, if_pos (show (true && true) = true from rfl)]
                exact Paired.snoc (q2.same st2) (st2 _ _ ht)
    · rintro σ H' ⟨v3, qs, rfl, s2, h2, t2, l2, q2⟩
      refine ⟨_, rfl, ?_⟩
      refine z _ l qs hl s2 l2 ?_
      have e : (ts.map V.ref).length = rs.length := by
        have := congrArg List.length hkeys
        rw [List.length_map] at this
        rw [List.length_map, Paired.length t2, this]
      rw [e, List.take_length] at q2
      exact q2
end
end Isl

end

section
set_option Elab.async false
set_option linter.all false
set_option maxRecDepth 100000
set_option maxHeartbeats 4000000
namespace Isl
open PySem PySem.Spec PyProof.Rows L2
/-! ### the island's object -/
def isf (k : Nat) (d s : Addr) : List (Str × V) := [("colours", iv k), ("becomes", .ref d), ("stand", .ref s)]
theorem put_stop {g : Str} {v x : V} {r : List (Str × V)} : putF g v ((g, x) :: r) = (g, v) :: r := if_pos rfl
theorem put_go {f g : Str} {v x : V} {r : List (Str × V)} (h : ¬ g = f) : putF f v ((g, x) :: r) = (g, x) :: putF f v r := if_neg h
theorem n1 : ¬ ("colours" : Str) = "becomes" := by decide +kernel
theorem n2 : ¬ ("colours" : Str) = "stand" := by decide +kernel
theorem n3 : ¬ ("becomes" : Str) = "stand" := by decide +kernel
theorem isf_new (k : Nat) (d s : Addr) : putF "stand" (.ref s) (putF "becomes" (.ref d) (putF "colours" (iv k) [])) = isf k d s := by
  show putF "stand" (.ref s) (putF "becomes" (.ref d) [("colours", iv k)]) = isf k d s
  rw [put_go n1]
  show putF "stand" (.ref s) (("colours", iv k) :: [("becomes", .ref d)]) = isf k d s
  rw [put_go n2, put_go n3]
  rfl
theorem isf_put_c (k j : Nat) (d s : Addr) : putF "colours" (iv j) (isf k d s) = isf j d s := put_stop
theorem isf_put_b (k : Nat) (d e s : Addr) : putF "becomes" (.ref e) (isf k d s) = isf k e s := by
  unfold isf; rw [put_go n1, put_stop]
theorem isf_put_s (k : Nat) (d s t : Addr) : putF "stand" (.ref t) (isf k d s) = isf k d t := by
  unfold isf; rw [put_go n2, put_go n3, put_stop]
theorem look_stop {g : Str} {x : V} {r : List (Str × V)} : ((g, x) :: r).lookup g = some x := by
  rw [List.lookup_cons, beq_self_eq_true]
theorem look_go {f g : Str} {x : V} {r : List (Str × V)} (h : ¬ f = g) : ((g, x) :: r).lookup f = r.lookup f := by
  rw [List.lookup_cons, beq_eq_false_iff_ne.mpr h]
theorem isf_c (k : Nat) (d s : Addr) : (isf k d s).lookup ("colours" : Str) = some (iv k) := look_stop
theorem isf_b (k : Nat) (d s : Addr) : (isf k d s).lookup ("becomes" : Str) = some (.ref d) := by
  unfold isf; rw [look_go (fun q => n1 q.symm), look_stop]
theorem isf_s (k : Nat) (d s : Addr) : (isf k d s).lookup ("stand" : Str) = some (.ref s) := by
  unfold isf; rw [look_go (fun q => n2 q.symm), look_go (fun q => n3 q.symm), look_stop]
theorem isf_no (k : Nat) (d s : Addr) {m : Str} (h1 : ¬ m = "colours") (h2 : ¬ m = "becomes") (h3 : ¬ m = "stand") : (isf k d s).lookup m = none := by
  unfold isf; rw [look_go h1, look_go h2, look_go h3]; rfl
structure IslAt (C : Addr) (H : Hp) (p : Addr) (x : Uw78.Island) : Prop where
  ex : ∃ dx dB sB, H p = some (.ins C dx (isf x.k dB sB)) ∧ RulesAt H dB x.rules ∧ H sB = some (.tup (lv x.stand))
/-- all but the island's object and the rules' dicts is as it was -/
def Keep (p : Addr) (H H' : Hp) : Prop := ∀ b o, H b = some o → b ≠ p → (∀ kvs, o ≠ .dT kvs) → H' b = some o
theorem Same.keep {p : Addr} {H H' : Hp} (s : Same H H') : Keep p H H' := fun b o e _ _ => s b o e
theorem Keep.trans {p : Addr} {H H1 H2 : Hp} (a : Keep p H H1) (b : Keep p H1 H2) : Keep p H H2 := fun c o e n1 n2 => b c o (a c o e n1 n2) n1 n2
theorem Keep.own {p : Addr} {H : Hp} {o : HO} : Keep p H (upd H p o) := fun b o e n1 _ => by rw [upd_ne n1]; exact e
theorem Keep.dict {p d : Addr} {H : Hp} {o : HO} {kvs : List (List Key × V)} (h : H d = some (.dT kvs)) : Keep p H (upd H d o) := fun b u e _ n2 => by
  rw [upd_ne (ne_of e h (n2 kvs))]; exact e
/-- all but the thing at p is as it was -/
def SameX (p : Addr) (H H' : Hp) : Prop := ∀ b o, H b = some o → b ≠ p → H' b = some o
end Isl
namespace L2
theorem Same.x {p : PySem.Addr} {H H' : Hp} (s : Same H H') : Isl.SameX p H H' := fun b o e _ => s b o e
end L2
namespace Isl
open PySem PySem.Spec PyProof.Rows L2
theorem SameX.trans {p : Addr} {H H1 H2 : Hp} (a : SameX p H H1) (b : SameX p H1 H2) : SameX p H H2 := fun c o e n => b c o (a c o e n) n
theorem SameX.own {p : Addr} {H : Hp} {o : HO} : SameX p H (upd H p o) := fun b o e n => by rw [upd_ne n]; exact e
theorem SameX.keep {p : Addr} {H H' : Hp} (s : SameX p H H') : Keep p H H' := fun b o e n _ => s b o e n
theorem SameX.at_ {p : Addr} {H H' : Hp} (s : SameX p H H') {C dx : Addr} {fs : List (Str × V)} (hp : H p = some (.ins C dx fs)) {b : Addr} {o : HO} (e : H b = some o) (n : o ≠ .ins C dx fs) : H' b = some o := s b o e (ne_of e hp n)
theorem SameX.t {p : Addr} {H H' : Hp} (s : SameX p H H') {C dx : Addr} {fs : List (Str × V)} (hp : H p = some (.ins C dx fs)) : SameT H H' := fun b xs e => s.at_ hp e (by intro q; cases q)
/-- what was tracked is tracked -/
def Al (H H' : Hp) : Prop := ∀ b, H' b = none → H b = none
theorem Al.trans {H H1 H2 : Hp} (a : Al H H1) (b : Al H1 H2) : Al H H2 := fun c e => a c (b c e)
theorem Al.put {H : Hp} {a : Addr} {o : HO} : Al H (upd H a o) := fun b e => by
  by_cases h : b = a
  · subst h; rw [upd_same] at e; cases e
  · rw [upd_ne h] at e; exact e
end Isl
namespace L2
theorem Same.al {H H' : Hp} (s : Same H H') : Isl.Al H H' := fun b e => s.free e
end L2
namespace Isl
open PySem PySem.Spec PyProof.Rows L2
theorem RulesAt.x {p : Addr} {H H' : Hp} {d : Addr} {rs : List Uw78.Rule} (h : RulesAt H d rs) (s : SameX p H H') {C dx : Addr} {fs : List (Str × V)} (hp : H p = some (.ins C dx fs)) : RulesAt H' d rs :=
  h.move (s.t hp) fun kvs e => s.at_ hp e (by intro q; cases q)
theorem IslAt.same {C : Addr} {H H' : Hp} {p : Addr} {x : Uw78.Island} (h : IslAt C H p x) (s : Same H H') : IslAt C H' p x := by
  obtain ⟨dx, dB, sB, h1, h2, h3⟩ := h.ex
  exact ⟨dx, dB, sB, s _ _ h1, h2.move s.t (fun kvs e => s _ _ e), s _ _ h3⟩
/-- what the text binds -/
structure Txt (K : PySem.W.Frag) (mg : Str → Option Value) (C : Addr) : Prop where
  cl : Cls K C
  nC : NoAttr K C "colours"
  nB : NoAttr K C "becomes"
  nS : NoAttr K C "stand"
  mgC : mg "Island" = some (.ref C)
  b : Blt mg
  old : Num mg "OLD_COLOURS" 3
  few : Num mg "FEWEST_COLOURS" 2
  most : Num mg "MOST_COLOURS" 4
  tog : Num mg "MOST_TOGETHER" 7
  noSuch : Num mg "NO_SUCH" (-1)
  notThere : Num mg "NOT_THERE" (-2)
  noChange : Num mg "NO_CHANGE" (-4)
  cannot : Num mg "CANNOT_BE" (-6)
  least : Num mg "LEAST_DIVISOR" 2
  greatest : Num mg "GREATEST_DIVISOR" 9
/-- the defs of the text -/
structure Defs (K : PySem.W.Frag) (mg : Str → Option Value) : Prop where
  ord : ∃ f fd, Def K mg "in_order" sOrd ["a", "b"] f fd
  pairs : ∃ f fd, Def K mg "pairs_of" sPairs ["colours"] f fd
  unch : ∃ f fd, Def K mg "unchanging_rule" sUnch ["colours"] f fd
  oldr : ∃ f fd, Def K mg "old_rule" sOldR [] f fd
  there : ∃ f fd, Def K mg "are_there" sThere ["stand", "pair"] f fd
  behind : ∃ f fd, Def K mg "stand_behind" sBehind ["stand", "pair", "changed"] f fd
  poss : ∃ f fd, Def K mg "possible_meetings" sPoss ["becomes", "stand"] f fd
  told : ∃ f fd, Def K mg "told_meetings" sTold ["meetings"] f fd
  ways : ∃ f fd, Def K mg "first_ways" sWays ["becomes", "stand"] f fd
  ahead : ∃ f fd, Def K mg "stands_ahead" sAhead ["becomes", "stands"] f fd
  lead : ∃ f fd, Def K mg "stands_leading_to" sLead ["ahead", "wanted"] f fd
  rows : ∃ f fd, Def K mg "rows_of_weights" sRows ["colours", "m"] f fd
  keptR : ∃ f fd, Def K mg "are_kept" sKeptR ["becomes", "weights", "m"] f fd
theorem flat_zeros (k : Nat) : (List.replicate k [V.int 0]).flatten = lv (List.replicate k 0) := by
  induction k with
  | zero => rfl
  | succ k ih => rw [List.replicate_succ, List.flatten_cons, ih, List.replicate_succ]; rfl
abbrev sInit : Stmt := inClass sIsl 0
abbrev sLacks : Stmt := inClass sIsl 1
abbrev sChg : Stmt := inClass sIsl 2
abbrev sFits : Stmt := inClass sIsl 3
abbrev sWayTo : Stmt := inClass sIsl 4
abbrev sBegins : Stmt := inClass sIsl 5
abbrev sRule : Stmt := inClass sIsl 6
abbrev sOld : Stmt := inClass sIsl 7
abbrev sAre : Stmt := inClass sIsl 8
abbrev sMeet : Stmt := inClass sIsl 9
abbrev sMay : Stmt := inClass sIsl 10
abbrev sTo : Stmt := inClass sIsl 11
abbrev sOne : Stmt := inClass sIsl 12
abbrev sComes : Stmt := inClass sIsl 13
abbrev sRests : Stmt := inClass sIsl 14
abbrev sAlways : Stmt := inClass sIsl 15
abbrev sKept : Stmt := inClass sIsl 16
def spInit (C : Addr) : Sp := fun vs H Q _ => ∃ (p dx : Addr), vs = [.ref p] ∧ H p = some (.ins C dx []) ∧ ∀ H' : Hp, IslAt C H' p Uw78.init → (∀ b o, H b = some o → b ≠ p → H' b = some o) → Q .non H'
def spLacks (C : Addr) : Sp := fun vs H Q _ => ∃ (p n dx dB sB : Addr) (k : Nat) (ns : List Nat), vs = [.ref p, .ref n] ∧ H p = some (.ins C dx (isf k dB sB)) ∧ H n = some (.tup (lv ns)) ∧ Q (.bl (ns.any fun c => decide (k ≤ c))) H
def spChg (C : Addr) : Sp := fun vs H Q _ => ∃ (p dx dB sB : Addr) (k : Nat) (rs : List Uw78.Rule), vs = [.ref p] ∧ H p = some (.ins C dx (isf k dB sB)) ∧ RulesAt H dB rs ∧ rs.length ≤ 10 ∧ ∀ H' : Hp, Same H H' → Q (iv (rs.filter Uw78.changes).length) H'
section
variable {P : Program} {w : World} {K : PySem.W.Frag} {mg : Str → Option Value} {base : Heap}
theorem scInit : FnScope ["self"] ["self"] (defScope sInit) := ⟨rfl, rfl, rfl, by decide +kernel, rfl, by decide +kernel, by decide +kernel⟩
theorem ok_init {f C : Addr} {fd : FuncData} (F : Fun K "__init__" "Island.__init__" sInit f fd) (T : Txt K mg C) (D : Defs K mg) : FnOk P w K mg base CX0 4 f fd ["self"] (spInit C) := by
  obtain ⟨fP, fdP, DP⟩ := D.pairs
  obtain ⟨fU, fdU, DU⟩ := D.unch
  obtain ⟨fO, fdO, DO⟩ := D.oldr
  have GO : FnOk P w K mg base CX0 3 fO fdO [] spOldR := ok_oldr DO.fn T.b DP DU T.old
  obtain ⟨t3, m3⟩ := T.old
  refine F.ok scInit (fun vs H Q E h => ?_) (fun cdv A outer s H vs Q E hr h => ?_)
  · obtain ⟨p, dx, rfl, _⟩ := h
    rfl
  · obtain ⟨p, dx, rfl, hp, z⟩ := h
    refine ⟨_, pss_cons (ps_fld (pv 0) (pe_glob rfl m3 (v := .int 3) ⟨_, rfl⟩) rfl)
      (pss_cons (ps_fld (pv 0) (pe_call0 GO hr rfl DO.m DO.fn.kp DO.b .nil pass0) rfl)
      (pss_one (ps_fld (pv 0) (pe_op op_repT (pe_tup (pa_cons pe_int pa_nil)) (pe_glob rfl m3 (v := .int 3) ⟨_, rfl⟩)) rfl))), ?_⟩
    refine ⟨_, rfl, p, C, dx, [], rfl, hp, T.cl, T.nC, (by show 0 < 1000; decide), ?_⟩
    refine ⟨rfl, fun H1 d hd s1 r1 => ?_⟩
    have p1 := s1 p _ upd_same
    refine ⟨_, rfl, p, C, dx, _, rfl, p1, T.cl, T.nB, (by show 1 < 1000; decide), ?_⟩
    refine ⟨(by show 1 ≤ sizeLine; decide), fun q hq => ⟨q, 3, _, rfl, rfl, SqT.of upd_same, (fun z => nomatch z), by decide, by decide, (by show 1 * 3 ≤ sizeLine; decide), fun t ht => ?_⟩⟩
    have p2 : upd H1 p (.ins C dx (putF "becomes" (.ref d) (putF "colours" (V.int 3) []))) p = some (.ins C dx (putF "becomes" (.ref d) (putF "colours" (V.int 3) []))) := upd_same
    have s2 : Same (upd H1 p (.ins C dx (putF "becomes" (.ref d) (putF "colours" (V.int 3) [])))) (upd (upd (upd H1 p (.ins C dx (putF "becomes" (.ref d) (putF "colours" (V.int 3) [])))) q (.tup [V.int 0])) t (.tup (List.replicate (3 : Int).toNat [V.int 0]).flatten)) := (Same.new hq).trans (Same.new ht)
    refine ⟨_, rfl, p, C, dx, _, rfl, s2 _ _ p2, T.cl, T.nS, (by show 2 < 1000; decide), ?_⟩
    have x1 : SameX p H1 _ := (SameX.own (o := .ins C dx (putF "becomes" (.ref d) (putF "colours" (V.int 3) [])))).trans (s2.x.trans (SameX.own (o := .ins C dx (putF "stand" (.ref t) (putF "becomes" (.ref d) (putF "colours" (V.int 3) []))))))
    refine z _ ⟨dx, d, t, ?_, r1.x x1 p1, ?_⟩ ?_
    · rw [upd_same]; exact congrArg (fun z => some (HO.ins C dx z)) (isf_new 3 d t)
    · have ntp : t ≠ p := fun e => ne_of_none ((Same.new hq) _ _ p2) ht e.symm
      rw [upd_ne ntp, upd_same]; rfl
    · exact (SameX.own.trans s1.x).trans x1
end
end Isl

end

section
set_option Elab.async false
set_option linter.all false
set_option maxRecDepth 100000
set_option maxHeartbeats 4000000
namespace Isl
open PySem PySem.Spec PyProof.Rows L2
/-- a method of the island -/
structure Mt (K : PySem.W.Frag) (C : Addr) (m q : Str) (st : Stmt) (ps : List Str) (f : Addr) (fd : FuncData) : Prop where
  fn : Fun K m q st f fd
  m : Meth K C m f
  b : Binds K fd ps []
/-- the address of the island's stand -/
def StandAt (C : Addr) (H : Hp) (p t : Addr) : Prop := ∃ dx k dB, H p = some (.ins C dx (isf k dB t))
theorem StandAt.eq {C : Addr} {H : Hp} {p t dx dB sB : Addr} {k : Nat} (hp : H p = some (.ins C dx (isf k dB sB))) (h : StandAt C H p t) : t = sB := by
  obtain ⟨dx', k', dB', e⟩ := h
  rw [hp] at e
  injection e with e
  injection e with _ _ e
  unfold isf at e
  injection e with _ e
  injection e with _ e
  injection e with e _
  injection e with _ e
  injection e with e
  exact e.symm
/-- the stand's list is the old one, or new -/
def StandOk (C : Addr) (p : Addr) (H H' : Hp) : Prop := ∀ t, StandAt C H' p t → StandAt C H p t ∨ H t = none
theorem st_old {C : Addr} {H H' : Hp} {p dx dB sB dx' dB' : Addr} {k k' : Nat} (hp : H p = some (.ins C dx (isf k dB sB))) (hp' : H' p = some (.ins C dx' (isf k' dB' sB))) : StandOk C p H H' := fun t h => .inl (by
  rw [StandAt.eq hp' h]; exact ⟨dx, k, dB, hp⟩)
theorem st_new {C : Addr} {H H' : Hp} {p sB dx' dB' : Addr} {k' : Nat} (hp' : H' p = some (.ins C dx' (isf k' dB' sB))) (hn : H sB = none) : StandOk C p H H' := fun t h => .inr (by
  rw [StandAt.eq hp' h]; exact hn)
/-- what a call does -/
def Does (C : Addr) (c : Uw78.Call) (p : Addr) (H : Hp) (Q : VK) : Prop := ∃ x, IslAt C H p x ∧ Ch.Wf x ∧ ∀ (H' : Hp) (l : Addr), IslAt C H' p (Uw78.step x c).1 → Keep p H H' → StandOk C p H H' → H l = none → H' l = some (.lst ((Uw78.step x c).2.map V.int)) → Q (.ref l) H'
def spBegins (C : Addr) : Sp := fun vs H Q _ => ∃ (p : Addr) (k : Nat), vs = [.ref p, iv k] ∧ Does C (.begins k) p H Q
def spRule (C : Addr) : Sp := fun vs H Q _ => ∃ (p : Addr) (a b c d : Nat), vs = [.ref p, iv a, iv b, iv c, iv d] ∧ Does C (.rule a b c d) p H Q
def spOld (C : Addr) : Sp := fun vs H Q _ => ∃ p : Addr, vs = [.ref p] ∧ Does C .old p H Q
def spAre (C : Addr) : Sp := fun vs H Q _ => ∃ (p s : Addr) (st : List Nat), vs = [.ref p, .ref s] ∧ H s = some (.lst (lv st)) ∧ Does C (.are st) p H Q
def spMeet (C : Addr) : Sp := fun vs H Q _ => ∃ (p : Addr) (a b : Nat), vs = [.ref p, iv a, iv b] ∧ Does C (.meet a b) p H Q
def spMay (C : Addr) : Sp := fun vs H Q _ => ∃ p : Addr, vs = [.ref p] ∧ Does C .may p H Q
section
variable {P : Program} {w : World} {K : PySem.W.Frag} {mg : Str → Option Value} {base : Heap}
theorem scLacks : FnScope ["self", "named", "colour"] ["self", "named"] (defScope sLacks) := ⟨rfl, rfl, rfl, by decide +kernel, rfl, by decide +kernel, by decide +kernel⟩
theorem ok_lacks {f C : Addr} {fd : FuncData} (F : Fun K "lacks_any" "Island.lacks_any" sLacks f fd) (T : Txt K mg C) : FnOk P w K mg base CX0 1 f fd ["self", "named"] (spLacks C) := by
  refine F.ok scLacks (fun vs H Q E h => ?_) (fun cdv A outer s H vs Q E hr h => ?_)
  · obtain ⟨_, _, _, _, _, _, _, rfl, _⟩ := h
    rfl
  · obtain ⟨p, n, dx, dB, sB, k, ns, rfl, hp, hn, z⟩ := h
    refine ⟨_, pss_cons (ps_for PassesOwn.never rfl (pi_tup (pv 1)) (pg_name (i := 2) scLacks.nd rfl (Or.inl rfl))
        (pss_one (ps_if (pt_cmpR op_ge (pv 2) (pe_fld (pv 0) rfl) (nomark _)) (pss_one (ps_ret pe_bl)) pss_nil)))
      (pss_one (ps_ret pe_bl)), ?_⟩
    refine ⟨_, rfl, n, rfl, ⟨_, SqT.of hn⟩, for_tup (K := K) (a := n) (xs := lv ns) (fun i σ H' => ∃ v : Option V, σ = [some (.ref p), some (.ref n), v] ∧ H' = H ∧ ((ns.take i).any fun c => decide (k ≤ c)) = false)
      ⟨none, rfl, rfl, rfl⟩ (fun i σ H' _ ⟨_, _, e, _⟩ => by rw [e]; exact SqT.of hn) ?_ ?_⟩
    · rintro i x σ H' hi ⟨v, rfl, rfl, hf⟩
      unfold lv at hi
      rw [List.getElem?_map] at hi
      cases e : ns[i]? with
      | none => rw [e] at hi; cases hi
      | some c =>
        rw [e] at hi
        cases hi
        refine ⟨_, rfl, _, rfl, p, C, dx, _, _, rfl, hp, T.cl, T.nC, isf_c _ _ _, _, _, rfl, rfl, _, rfl, ?_⟩
        refine ite2 (fun h => ?_) (fun h => ?_)
        · have h : k ≤ c := by have := of_decide_eq_true h; omega
          have e2 : (ns.any fun c => decide (k ≤ c)) = true := List.any_eq_true.mpr ⟨c, List.mem_of_getElem? e, decide_eq_true h⟩
          rw [e2] at z
          exact z
        · have h : ¬ k ≤ c := fun q => h (decide_eq_true (by omega))
          refine ⟨_, rfl, rfl, ?_⟩
          rw [List.take_add_one, e, List.any_append, hf]
          show (false || (decide (k ≤ c) || false)) = false
          rw [decide_eq_false h]; rfl
    · rintro σ H' ⟨v, rfl, rfl, hf⟩
      rw [lv_len, List.take_length] at hf
      rw [hf] at z
      exact z
theorem scChg : FnScope ["self", "changing", "pair", "changed"] ["self"] (defScope sChg) := ⟨rfl, rfl, rfl, by decide +kernel, rfl, by decide +kernel, by decide +kernel⟩
theorem ok_chg {f C : Addr} {fd : FuncData} (F : Fun K "changing_rules" "Island.changing_rules" sChg f fd) (T : Txt K mg C) : FnOk P w K mg base CX0 1 f fd ["self"] (spChg C) := by
  refine F.ok scChg (fun vs H Q E h => ?_) (fun cdv A outer s H vs Q E hr h => ?_)
  · obtain ⟨_, _, _, _, _, _, rfl, _⟩ := h
    rfl
  · obtain ⟨p, dx, dB, sB, k, rs, rfl, hp, hR, hlen, z⟩ := h
    have hu64 := hr.units
    obtain ⟨kvs, hd, pr⟩ := hR.ex
    refine ⟨_, pss_cons (ps_set (i := 1) scChg.nd rfl (Or.inl rfl) pe_int)
      (pss_cons (ps_lock (ps_for PassesOwn.never rfl (pi_itemsT (pe_fld (pv 0) rfl)) (pg_tup rfl (pgs_cons (pg_name (i := 2) scChg.nd rfl (Or.inl rfl)) (pgs_cons (pg_name (i := 3) scChg.nd rfl (Or.inl rfl)) pgs_nil)))
        (pss_one (ps_if (pt_cmpR (op_neD hu64) (pv 3) (pv 2) (nomark _)) (pss_one (ps_aug (i := 1) scChg.nd rfl (Or.inl rfl) pe_int ip_add)) pss_nil))))
      (pss_one (ps_ret (pv 1)))), ?_⟩
    refine ⟨dB, .dT kvs, hd, trivial, fun od => ?_⟩
    have npd : p ≠ dB := ne_of hp hd (by intro q; cases q)
    refine ⟨_, rfl, p, C, dx, _, _, rfl, (by rw [upd_ne npd]; exact hp), T.cl, T.nB, isf_b _ _ _, dB, od, kvs, rfl, upd_same, ?_⟩
    refine for_itemsT (fun i σ H' => ∃ v2 v3 : Option V, σ = [some (.ref p), some (iv ((rs.take i).filter Uw78.changes).length), v2, v3] ∧ H' dB = some (.frz od (.dT kvs)) ∧ ∀ b o, H b = some o → b ≠ dB → H' b = some o)
      ⟨none, none, rfl, upd_same, fun b o e n => by rw [upd_ne n]; exact e⟩ (fun i σ H' _ ⟨_, _, _, q, _⟩ => q) ?_ ?_
    · rintro i ky v Tn q σ H' hi hT hq ⟨v2, v3, rfl, h2, k2⟩
      obtain ⟨r, hr', e1, q', e2, e3⟩ := paired_get pr hi
      cases e1
      cases e2
      have nTd : dB ≠ Tn := ne_of_none h2 hT
      have hq' : H' q' = some (.tup [iv r.c, iv r.d]) := k2 _ _ e3 (ne_of e3 hd (by intro q; cases q))
      have u1 : upd H' Tn (.tup [.ref q, .ref q']) q = some (.tup [iv r.a, iv r.b]) := by rw [upd_ne (ne_of_none hq hT)]; exact hq
      have u2 : upd H' Tn (.tup [.ref q, .ref q']) q' = some (.tup [iv r.c, iv r.d]) := by rw [upd_ne (ne_of_none hq' hT)]; exact hq'
      refine ⟨Tn, _, rfl, SqT.of upd_same, rfl, _, _, rfl, _, _, rfl, rfl, ?_⟩
      refine ⟨_, rfl, _, rfl, _, _, .tup (SqT.of u2) (.cons (.int _) (.cons (.int _) .nil)), .tup (SqT.of u1) (.cons (.int _) (.cons (.int _) .nil)), rfl, rfl, _, rfl, ?_⟩
      have e1 : (!PyData.eqv (.tuple [.int (r.c : Int), .int (r.d : Int)]) (.tuple [.int (r.a : Int), .int (r.b : Int)])) = Uw78.changes r := ne_pair r
      rw [e1]
      have kp : ∀ b o, H b = some o → b ≠ dB → upd H' Tn (.tup [.ref q, .ref q']) b = some o := fun b o e n => by
        rw [upd_ne (ne_of_none (k2 b o e n) hT)]; exact k2 b o e n
      have tk : (rs.take (i + 1)).filter Uw78.changes = (rs.take i).filter Uw78.changes ++ (if Uw78.changes r = true then [r] else []) := by
        rw [List.take_add_one, hr', List.filter_append]
        congr 1
        show List.filter _ [r] = _
        rw [List.filter_cons]
        split <;> rfl
      cases ec : Uw78.changes r with
      | false =>
        refine iteF ?_
        refine ⟨some (.ref q), some (.ref q'), ?_, by rw [upd_ne nTd]; exact h2, kp⟩
        rw [tk, ec, if_neg Bool.false_ne_true, List.append_nil]
        rfl
      | true =>
        refine iteT ?_
        refine ⟨_, rfl, _, _, rfl, rfl, some (.ref q), some (.ref q'), ?_, by rw [upd_ne nTd]; exact h2, kp⟩
        rw [tk, ec, if_pos rfl, List.length_append]
        rfl
    · rintro σ H' ⟨v2, v3, rfl, h2, k2⟩
      refine ⟨h2, ?_⟩
      refine ⟨_, rfl, ?_⟩
      have el : kvs.length = rs.length := Paired.length pr
      rw [el, List.take_length]
      refine z _ fun b o e => ?_
      by_cases n : b = dB
      · subst n
        rw [upd_same, ← e, hd]
      · rw [upd_ne n]; exact k2 b o e n
end
end Isl

end

section
set_option Elab.async false
set_option linter.all false
set_option maxRecDepth 100000
set_option maxHeartbeats 4000000
namespace Isl
open PySem PySem.Spec PyProof.Rows L2
theorem sl1 : 1 ≤ sizeLine := by decide
theorem sl2 : 2 ≤ sizeLine := by decide
theorem sl4 : 4 ≤ sizeLine := by decide
/-- a refusal: one number, and nothing else -/
theorem refuse {C : Addr} {c : Uw78.Call} {p : Addr} {H H1 : Hp} {Q : VK} {x : Uw78.Island} {n : Int} (hI : IslAt C H p x) (z : ∀ (H' : Hp) (l : Addr), IslAt C H' p (Uw78.step x c).1 → Keep p H H' → StandOk C p H H' → H l = none → H' l = some (.lst ((Uw78.step x c).2.map V.int)) → Q (.ref l) H')
    (e : Uw78.step x c = (x, [n])) (s : Same H H1) {l : Addr} (hl : H1 l = none) : Q (.ref l) (upd H1 l (.lst [.int n])) := by
  rw [e] at z
  have s1 : Same H (upd H1 l (.lst [.int n])) := s.trans (Same.new hl)
  obtain ⟨dx, dB, sB, hp, _, _⟩ := hI.ex
  exact z _ l (hI.same s1) (Same.keep s1) (st_old hp (s1 _ _ hp)) (s.free hl) upd_same
/-- an answer that leaves the island as it was -/
theorem same_out {C : Addr} {c : Uw78.Call} {p : Addr} {H H1 : Hp} {Q : VK} {x : Uw78.Island} {ns : List Int} (hI : IslAt C H p x) (z : ∀ (H' : Hp) (l : Addr), IslAt C H' p (Uw78.step x c).1 → Keep p H H' → StandOk C p H H' → H l = none → H' l = some (.lst ((Uw78.step x c).2.map V.int)) → Q (.ref l) H')
    (e : Uw78.step x c = (x, ns)) (s : Same H H1) {l : Addr} (hl : H l = none) (h : H1 l = some (.lst (ns.map V.int))) : Q (.ref l) H1 := by
  rw [e] at z
  obtain ⟨dx, dB, sB, hp, _, _⟩ := hI.ex
  exact z _ l (hI.same s) (Same.keep s) (st_old hp (s _ _ hp)) hl h
theorem ordered_lacks {k : Nat} {ns : List Nat} : (ns.any fun c => decide (k ≤ c)) = true ↔ ∃ c ∈ ns, k ≤ c := by
  rw [List.any_eq_true]
  exact ⟨fun ⟨c, h, e⟩ => ⟨c, h, of_decide_eq_true e⟩, fun ⟨c, h, e⟩ => ⟨c, h, decide_eq_true e⟩⟩
section
variable {P : Program} {w : World} {K : PySem.W.Frag} {mg : Str → Option Value} {base : Heap}
theorem scBegins : FnScope ["self", "k"] ["self", "k"] (defScope sBegins) := ⟨rfl, rfl, rfl, by decide +kernel, rfl, by decide +kernel, by decide +kernel⟩
theorem ok_begins {f C : Addr} {fd : FuncData} (F : Fun K "begins" "Island.begins" sBegins f fd) (T : Txt K mg C) (D : Defs K mg) : FnOk P w K mg base CX0 3 f fd ["self", "k"] (spBegins C) := by
  obtain ⟨fP, fdP, DP⟩ := D.pairs
  obtain ⟨fU, fdU, DU⟩ := D.unch
  have GU : FnOk P w K mg base CX0 2 fU fdU ["colours"] spUnch := ok_unch DU.fn T.b DP
  obtain ⟨_, mF⟩ := T.few
  obtain ⟨_, mM⟩ := T.most
  obtain ⟨_, mN⟩ := T.noSuch
  refine F.ok scBegins (fun vs H Q E h => ?_) (fun cdv A outer s H vs Q E hr h => ?_)
  · obtain ⟨_, _, rfl, _⟩ := h
    rfl
  · obtain ⟨p, k, rfl, x, hI, wf, z⟩ := h
    obtain ⟨dx, dB, sB, hp, hR, hS⟩ := hI.ex
    refine ⟨_, pss_cons (ps_if (PW.pt (pw_or (pt_cmpR op_lt (pv 1) (pe_glob rfl mF (v := .int 2) ⟨_, rfl⟩) (nomark _)) (pw_or1 (pt_cmpR op_gt (pv 1) (pe_glob rfl mM (v := .int 4) ⟨_, rfl⟩) (nomark _)))))
        (pss_one (ps_ret (pe_lst (pa_cons (pe_glob rfl mN (v := .int (-1)) ⟨_, rfl⟩) pa_nil)))) pss_nil)
      (pss_cons (ps_fld (pv 0) (pv 1) rfl)
      (pss_cons (ps_fld (pv 0) (pe_call GU hr rfl DU.m DU.fn.kp DU.b .nil pass0 (pa_cons (pv 1) pa_nil)) rfl)
      (pss_cons (ps_fld (pv 0) (pe_op op_repT (pe_tup (pa_cons pe_int pa_nil)) (pv 1)) rfl)
      (pss_one (ps_ret (pe_lst (pa_cons pe_int pa_nil))))))), ?_⟩
    refine ⟨_, rfl, _, _, rfl, rfl, _, rfl, ?_⟩
    refine ite2 (fun h => iteT ?_) (fun h => ⟨_, rfl, _, _, rfl, rfl, _, rfl, ite2 (fun h' => ?_) (fun h' => ?_)⟩)
    · have hk : k < 2 := by have := of_decide_eq_true h; omega
      exact ⟨sl1, fun l hl => refuse hI z (if_pos (.inl hk)) (Same.refl H) hl⟩
    · have hk : 4 < k := by have := of_decide_eq_true h'; omega
      exact ⟨sl1, fun l hl => refuse hI z (if_pos (.inr hk)) (Same.refl H) hl⟩
    · have k2 : 2 ≤ k := by have q : ¬ ((k : Int) < 2) := fun q => h (decide_eq_true q); omega
      have k4 : k ≤ 4 := by have q : ¬ ((4 : Int) < (k : Int)) := fun q => h' (decide_eq_true q); omega
      have e : Uw78.step x (.begins k) = (⟨k, Uw78.plain k, List.replicate k 0⟩, [0]) := if_neg (by omega)
      rw [e] at z
      refine ⟨_, rfl, _, rfl, p, C, dx, _, rfl, hp, T.cl, T.nC, (by show 3 < 1000; decide), ?_⟩
      rw [isf_put_c]
      refine ⟨_, rfl, k, rfl, k2, k4, fun H1 d hd s1 r1 => ?_⟩
      have p1 := s1 p _ upd_same
      refine ⟨_, rfl, p, C, dx, _, rfl, p1, T.cl, T.nB, (by show 3 < 1000; decide), ?_⟩
      rw [isf_put_b]
      refine ⟨sl1, fun q hq => ⟨_, rfl, q, k, _, rfl, rfl, SqT.of upd_same, (fun z => nomatch z), by omega, by omega, (by show 1 * k ≤ sizeLine; rw [sizeLine_eq]; omega), fun t ht => ?_⟩⟩
      have p2 : upd H1 p (.ins C dx (isf k d sB)) p = some (.ins C dx (isf k d sB)) := upd_same
      have s2 := (Same.new (o := .tup [V.int 0]) hq).trans (Same.new (o := .tup (List.replicate (k : Int).toNat [V.int 0]).flatten) ht)
      refine ⟨_, rfl, p, C, dx, _, rfl, s2 _ _ p2, T.cl, T.nS, (by show 3 < 1000; decide), ?_⟩
      rw [isf_put_s]
      refine ⟨sl1, fun l hl => ?_⟩
      have ntp : t ≠ p := fun e => ne_of_none ((Same.new hq) _ _ p2) ht e.symm
      have x0 : SameX p H H1 := SameX.own.trans s1.x
      have x1 : SameX p H1 _ := (SameX.own (o := .ins C dx (isf k d sB))).trans (s2.x.trans ((SameX.own (o := .ins C dx (isf k d t))).trans (Same.new (o := .lst [V.int 0]) hl).x))
      have hlt : t ≠ l := fun e => by
        subst e; rw [upd_ne ntp, upd_same] at hl; cases hl
      have hlp : p ≠ l := fun e => by
        subst e; rw [upd_same] at hl; cases hl
      have hpf : upd (upd (upd (upd (upd H1 p (.ins C dx (isf k d sB))) q (.tup [V.int 0])) t (.tup (List.replicate (k : Int).toNat [V.int 0]).flatten)) p (.ins C dx (isf k d t))) l (.lst [V.int 0]) p = some (.ins C dx (isf k d t)) := by
        rw [upd_ne hlp, upd_same]
      refine z _ l ⟨dx, d, t, hpf, r1.x x1 p1, ?_⟩ (x0.trans x1).keep (st_new hpf ((Al.put.trans (s1.al.trans (Al.put.trans Al.put))) t ht)) ?_ upd_same
      · rw [upd_ne hlt, upd_ne ntp, upd_same]
        exact congrArg (fun z => some (HO.tup z)) (flat_zeros k)
      · exact (Al.put.trans (s1.al.trans (Al.put.trans (s2.al.trans Al.put)))) l hl
theorem scRule : FnScope ["self", "a", "b", "c", "d"] ["self", "a", "b", "c", "d"] (defScope sRule) := ⟨rfl, rfl, rfl, by decide +kernel, rfl, by decide +kernel, by decide +kernel⟩
theorem ok_rule {f C fL fG : Addr} {fd fdL fdG : FuncData} (F : Fun K "rule" "Island.rule" sRule f fd) (T : Txt K mg C) (D : Defs K mg) (ML : Mt K C "lacks_any" "Island.lacks_any" sLacks ["self", "named"] fL fdL) (MG : Mt K C "changing_rules" "Island.changing_rules" sChg ["self"] fG fdG) :
    FnOk P w K mg base CX0 2 f fd ["self", "a", "b", "c", "d"] (spRule C) := by
  obtain ⟨fO, fdO, DO⟩ := D.ord
  have GO : FnOk P w K mg base CX0 1 fO fdO ["a", "b"] spOrd := ok_ord DO.fn
  have GL : FnOk P w K mg base CX0 1 fL fdL ["self", "named"] (spLacks C) := ok_lacks ML.fn T
  have GG : FnOk P w K mg base CX0 1 fG fdG ["self"] (spChg C) := ok_chg MG.fn T
  obtain ⟨_, mN⟩ := T.noSuch
  refine F.ok scRule (fun vs H Q E h => ?_) (fun cdv A outer s H vs Q E hr h => ?_)
  · obtain ⟨_, _, _, _, _, rfl, _⟩ := h
    rfl
  · obtain ⟨p, a, b, c, d, rfl, x, hI, wf, z⟩ := h
    obtain ⟨dx, dB, sB, hp, hR, hS⟩ := hI.ex
    have hu := hu_of hr
    refine ⟨_, pss_cons (ps_if (pt_val (pe_meth (pv 0) T.cl ML.m GL hr ML.b .nil pass0 (pa_cons (pe_tup (pa_cons (pv 1) (pa_cons (pv 2) (pa_cons (pv 3) (pa_cons (pv 4) pa_nil))))) pa_nil)))
        (pss_one (ps_ret (pe_lst (pa_cons (pe_glob rfl mN (v := .int (-1)) ⟨_, rfl⟩) pa_nil)))) pss_nil)
      (pss_cons (ps_dput hu (pe_fld (pv 0) rfl) (pe_call GO hr rfl DO.m DO.fn.kp DO.b .nil pass0 (pa_cons (pv 1) (pa_cons (pv 2) pa_nil))) (pe_call GO hr rfl DO.m DO.fn.kp DO.b .nil pass0 (pa_cons (pv 3) (pa_cons (pv 4) pa_nil))) rfl)
      (pss_one (ps_ret (pe_lst (pa_cons (pe_meth0 (pv 0) T.cl MG.m GG hr MG.b .nil pass0) pa_nil))))), ?_⟩
    refine ⟨_, rfl, p, dx, _, rfl, hp, isf_no _ _ _ (by decide +kernel) (by decide +kernel) (by decide +kernel), _, rfl, _, rfl, _, rfl, _, rfl, sl4, fun n hn => ?_⟩
    have s1 : Same H (upd H n (.tup [iv a, iv b, iv c, iv d])) := Same.new hn
    refine ⟨p, n, dx, dB, sB, x.k, [a, b, c, d], rfl, s1 _ _ hp, upd_same, _, rfl, ite2 (fun h => ?_) (fun h => ?_)⟩
    · have hk : x.k ≤ a ∨ x.k ≤ b ∨ x.k ≤ c ∨ x.k ≤ d := by
        obtain ⟨y, hy, hle⟩ := ordered_lacks.mp h
        simp at hy
        rcases hy with rfl | rfl | rfl | rfl
        · exact .inl hle
        · exact .inr (.inl hle)
        · exact .inr (.inr (.inl hle))
        · exact .inr (.inr (.inr hle))
      exact ⟨sl1, fun l hl => refuse hI z (if_pos hk) s1 hl⟩
    · have ha : a < x.k := Nat.lt_of_not_le fun q => h (ordered_lacks.mpr ⟨a, by simp, q⟩)
      have hb : b < x.k := Nat.lt_of_not_le fun q => h (ordered_lacks.mpr ⟨b, by simp, q⟩)
      have hc : c < x.k := Nat.lt_of_not_le fun q => h (ordered_lacks.mpr ⟨c, by simp, q⟩)
      have hd : d < x.k := Nat.lt_of_not_le fun q => h (ordered_lacks.mpr ⟨d, by simp, q⟩)
      have e : Uw78.step x (.rule a b c d) = Uw78.many { x with rules := Ch.told x.rules (Uw78.ordered a b) (Uw78.ordered c d) } := if_neg (by omega)
      rw [e] at z
      refine ⟨_, rfl, _, rfl, c, d, rfl, fun q hq => ?_⟩
      have s2 := s1.trans (Same.new (o := .tup (pv2 (Uw78.ordered c d))) hq)
      refine ⟨_, rfl, p, C, dx, _, _, rfl, s2 _ _ hp, T.cl, T.nB, isf_b _ _ _, _, rfl, _, rfl, a, b, rfl, fun t ht => ?_⟩
      have s3 := s2.trans (Same.new (o := .tup (pv2 (Uw78.ordered a b))) ht)
      obtain ⟨kvs, d3, pr3⟩ := (hR.move s3.t (fun kvs e => s3 _ _ e)).ex
      have hlen : kvs.length < sizeLine := by
        have q1 := Paired.length pr3
        have q2 := wf.rlen
        rw [sizeLine_eq]; omega
      refine ⟨dB, _, rfl, DPut.t (k := kk (Uw78.ordered a b).1 (Uw78.ordered a b).2) d3 upd_same hlen, ?_⟩
      have npd : p ≠ dB := ne_of (s3 _ _ hp) d3 (by intro q; cases q)
      obtain ⟨r, hr1, ea, eb⟩ := wf.at_ (Ch.ordered_le a b) (Ch.ordered_lt ha hb)
      have hqt : (upd (upd (upd H n (.tup [iv a, iv b, iv c, iv d])) q (.tup (pv2 (Uw78.ordered c d)))) t (.tup (pv2 (Uw78.ordered a b)))) q = some (.tup (pv2 (Uw78.ordered c d))) := by
        rw [upd_ne (ne_of_none (upd_same (o := .tup (pv2 (Uw78.ordered c d)))) ht), upd_same]
      generalize hH4 : (upd (upd (upd H n (.tup [iv a, iv b, iv c, iv d])) q (.tup (pv2 (Uw78.ordered c d)))) t (.tup (pv2 (Uw78.ordered a b)))) = H4 at *
      have t4 : SameT H4 (upd H4 dB (.dT (putK kvs (kk (Uw78.ordered a b).1 (Uw78.ordered a b).2) (.ref q)))) := fun bb xs e => by
        rw [upd_ne (ne_of e d3 (by intro q; cases q))]; exact e
      have R5 : RulesAt (upd H4 dB (.dT (putK kvs (kk (Uw78.ordered a b).1 (Uw78.ordered a b).2) (.ref q)))) dB (Ch.told x.rules (Uw78.ordered a b) (Uw78.ordered c d)) :=
        ⟨_, upd_same, kv_put (t4 _ _ hqt) (Paired.mapP pr3 fun kv r ⟨e1, q, e2, e3⟩ => ⟨e1, q, e2, t4 _ _ e3⟩) wf.nd hr1 ea eb⟩
      have kp4 : Keep p H4 (upd H4 dB (.dT (putK kvs (kk (Uw78.ordered a b).1 (Uw78.ordered a b).2) (.ref q)))) := Keep.dict d3
      have al4 : Al H4 (upd H4 dB (.dT (putK kvs (kk (Uw78.ordered a b).1 (Uw78.ordered a b).2) (.ref q)))) := Al.put
      have hp5 : (upd H4 dB (.dT (putK kvs (kk (Uw78.ordered a b).1 (Uw78.ordered a b).2) (.ref q)))) p = some (.ins C dx (isf x.k dB sB)) := by rw [upd_ne npd]; exact s3 _ _ hp
      generalize (upd H4 dB (.dT (putK kvs (kk (Uw78.ordered a b).1 (Uw78.ordered a b).2) (.ref q)))) = H5 at *
      refine ⟨_, rfl, p, dx, _, rfl, hp5, isf_no _ _ _ (by decide +kernel) (by decide +kernel) (by decide +kernel), p, dx, dB, sB, x.k, _, rfl, hp5, R5, ?_, fun H6 s6 => ⟨sl1, fun l hl => ?_⟩⟩
      · have := wf.rlen
        show (Ch.told x.rules _ _).length ≤ 10
        unfold Ch.told
        rw [List.length_map]; exact this
      · have s7 := s6.trans (Same.new (o := .lst [iv ((Ch.told x.rules (Uw78.ordered a b) (Uw78.ordered c d)).filter Uw78.changes).length]) hl)
        have kp : Keep p H _ := (Same.keep s3).trans (kp4.trans (Same.keep s7))
        have hS5 := kp4 sB _ (s3 _ _ hS) (ne_of (s3 _ _ hS) (s3 _ _ hp) (by intro q; cases q)) (by intro kvs q; cases q)
        refine z _ l ⟨dx, dB, sB, s7 _ _ hp5, R5.move s7.t (fun kvs e => s7 _ _ e), s7 _ _ hS5⟩ kp (st_old hp (s7 _ _ hp5)) ?_ upd_same
        exact (s3.al.trans (al4.trans s6.al)) l hl
end
end Isl

end

section
set_option Elab.async false
set_option linter.all false
set_option maxRecDepth 100000
set_option maxHeartbeats 4000000
namespace Isl
open PySem PySem.Spec PyProof.Rows L2
theorem lv_ints (s : List Nat) : lv s = (Uw78.ints s).map V.int := by
  unfold lv Uw78.ints
  rw [List.map_map]
  rfl
theorem sum_ints : ∀ s : List Nat, (Uw78.ints s).sum = ((Uw78.total s : Nat) : Int)
  | [] => rfl
  | a :: s => by
    have ih := sum_ints s
    rw [Ch.total_cons]
    show ((a : Int) :: Uw78.ints s).sum = _
    rw [List.sum_cons, ih]
    omega
theorem flat_pairs : ∀ l : List Uw78.Rule, (l.flatMap fun r => Uw78.ints [r.a, r.b]).map V.int = (l.map Ch.key).flatMap pv2
  | [] => rfl
  | r :: l => by
    rw [List.flatMap_cons, List.map_append, flat_pairs l, List.map_cons, List.flatMap_cons]
    rfl
section
variable {P : Program} {w : World} {K : PySem.W.Frag} {mg : Str → Option Value} {base : Heap}
theorem scOld : FnScope ["self"] ["self"] (defScope sOld) := ⟨rfl, rfl, rfl, by decide +kernel, rfl, by decide +kernel, by decide +kernel⟩
theorem ok_old {f C fG : Addr} {fd fdG : FuncData} (F : Fun K "old" "Island.old" sOld f fd) (T : Txt K mg C) (D : Defs K mg) (MG : Mt K C "changing_rules" "Island.changing_rules" sChg ["self"] fG fdG) :
    FnOk P w K mg base CX0 4 f fd ["self"] (spOld C) := by
  obtain ⟨fP, fdP, DP⟩ := D.pairs
  obtain ⟨fU, fdU, DU⟩ := D.unch
  obtain ⟨fO, fdO, DO⟩ := D.oldr
  have GO : FnOk P w K mg base CX0 3 fO fdO [] spOldR := ok_oldr DO.fn T.b DP DU T.old
  have GG : FnOk P w K mg base CX0 1 fG fdG ["self"] (spChg C) := ok_chg MG.fn T
  obtain ⟨_, m3⟩ := T.old
  obtain ⟨_, mN⟩ := T.cannot
  refine F.ok scOld (fun vs H Q E h => ?_) (fun cdv A outer s H vs Q E hr h => ?_)
  · obtain ⟨_, rfl, _⟩ := h
    rfl
  · obtain ⟨p, rfl, x, hI, wf, z⟩ := h
    obtain ⟨dx, dB, sB, hp, hR, hS⟩ := hI.ex
    have hr1 := hr.mono (show 1 ≤ 3 by decide)
    refine ⟨_, pss_cons (ps_if (pt_cmpR op_ne (pe_fld (pv 0) rfl) (pe_glob rfl m3 (v := .int 3) ⟨_, rfl⟩) (nomark _))
        (pss_one (ps_ret (pe_lst (pa_cons (pe_glob rfl mN (v := .int (-6)) ⟨_, rfl⟩) pa_nil)))) pss_nil)
      (pss_cons (ps_fld (pv 0) (pe_call0 GO hr rfl DO.m DO.fn.kp DO.b .nil pass0) rfl)
      (pss_one (ps_ret (pe_lst (pa_cons (pe_meth0 (pv 0) T.cl MG.m GG hr1 MG.b .nil pass0) pa_nil))))), ?_⟩
    refine ⟨_, rfl, p, C, dx, _, _, rfl, hp, T.cl, T.nC, isf_c _ _ _, rfl, _, rfl, ite2 (fun h => ?_) (fun h => ?_)⟩
    · have hk : x.k ≠ 3 := fun e => by rw [e] at h; exact absurd h (by decide)
      exact ⟨sl1, fun l hl => refuse hI z (if_pos hk) (Same.refl H) hl⟩
    · have hk : ¬ x.k ≠ 3 := fun e => h (by
        rw [decide_eq_false (fun q => e (by injection q with q; omega))]; rfl)
      have e : Uw78.step x .old = Uw78.many { x with rules := Uw78.oldRules } := if_neg hk
      rw [e] at z
      refine ⟨rfl, fun H1 d hd s1 r1 => ?_⟩
      refine ⟨_, rfl, p, C, dx, _, rfl, s1 _ _ hp, T.cl, T.nB, (by show 3 < 1000; decide), ?_⟩
      rw [isf_put_b]
      have x1 : SameX p H1 (upd H1 p (.ins C dx (isf x.k d sB))) := SameX.own
      have r2 := r1.x x1 (s1 _ _ hp)
      have hp2 : upd H1 p (.ins C dx (isf x.k d sB)) p = some (.ins C dx (isf x.k d sB)) := upd_same
      have a2 : Al H1 (upd H1 p (.ins C dx (isf x.k d sB))) := Al.put
      generalize upd H1 p (.ins C dx (isf x.k d sB)) = H2 at *
      refine ⟨_, rfl, p, dx, _, rfl, hp2, isf_no _ _ _ (by decide +kernel) (by decide +kernel) (by decide +kernel), p, dx, d, sB, x.k, _, rfl, hp2, r2, by decide, fun H6 s6 => ⟨sl1, fun l hl => ?_⟩⟩
      have s7 := s6.trans (Same.new (o := .lst [iv (Uw78.oldRules.filter Uw78.changes).length]) hl)
      refine z _ l ⟨dx, d, sB, s7 _ _ hp2, r2.move s7.t (fun kvs e => s7 _ _ e), s7 _ _ (x1.at_ (s1 _ _ hp) (s1 _ _ hS) (by intro q; cases q))⟩ ?_ (st_old hp (s7 _ _ hp2)) ((s1.al.trans (a2.trans s6.al)) l hl) upd_same
      exact (s1.x.trans (x1.trans s7.x)).keep
theorem scAre : FnScope ["self", "stand"] ["self", "stand"] (defScope sAre) := ⟨rfl, rfl, rfl, by decide +kernel, rfl, by decide +kernel, by decide +kernel⟩
theorem ok_are {f C : Addr} {fd : FuncData} (F : Fun K "are" "Island.are" sAre f fd) (T : Txt K mg C) : FnOk P w K mg base CX0 1 f fd ["self", "stand"] (spAre C) := by
  obtain ⟨_, mT⟩ := T.tog
  obtain ⟨_, mN⟩ := T.noSuch
  refine F.ok scAre (fun vs H Q E h => ?_) (fun cdv A outer s H vs Q E hr h => ?_)
  · obtain ⟨_, _, _, rfl, _⟩ := h
    rfl
  · obtain ⟨p, sa, st, rfl, hs, x, hI, wf, z⟩ := h
    obtain ⟨dx, dB, sB, hp, hR, hS⟩ := hI.ex
    have hs2 : SqL K H sa ((Uw78.ints st).map V.int) := by rw [← lv_ints]; exact SqL.of hs
    refine ⟨_, pss_cons (ps_if (PW.pt (pw_or (pt_cmpR op_ne (pe_callB call_len_seq (by rfl) T.b.len PySem.boot_len (pa_cons (pv 1) pa_nil)) (pe_fld (pv 0) rfl) (nomark _))
          (pw_or1 (pt_cmpR op_gt (pe_callB (cr_sum rfl) (by rfl) T.b.sum PyProof.Rows.boot_sum (pa_cons (pv 1) pa_nil)) (pe_glob rfl mT (v := .int 7) ⟨_, rfl⟩) (nomark _)))))
        (pss_one (ps_ret (pe_lst (pa_cons (pe_glob rfl mN (v := .int (-1)) ⟨_, rfl⟩) pa_nil)))) pss_nil)
      (pss_cons (ps_fld (pv 0) (pe_callTy call_tuple_of rfl T.b.tuple PyProof.Rows.boot_tuple (pa_cons (pv 1) pa_nil)) rfl)
      (pss_one (ps_ret (pe_lst (pa_cons (pe_callB (cr_sum rfl) (by rfl) T.b.sum PyProof.Rows.boot_sum (pa_cons (pv 1) pa_nil)) pa_nil))))), ?_⟩
    refine ⟨_, rfl, sa, _, rfl, .inl (SqL.of hs), _, rfl, p, C, dx, _, _, rfl, hp, T.cl, T.nC, isf_c _ _ _, rfl, _, rfl, ite2 (fun h => iteT ?_) (fun h => ?_)⟩
    · have hk : st.length ≠ x.k := fun e => by rw [lv_len, e] at h; simp at h
      exact ⟨sl1, fun l hl => refuse hI z (if_pos (.inl hk)) (Same.refl H) hl⟩
    · have hk : st.length = x.k := by
        by_cases e : st.length = x.k
        · exact e
        · exact absurd (by rw [lv_len, decide_eq_false (fun q => e (by injection q with q; omega))]; rfl) h
      refine ⟨_, rfl, sa, _, rfl, hs2, _, _, rfl, rfl, _, rfl, ite2 (fun h' => ?_) (fun h' => ?_)⟩
      · have ht : 7 < Uw78.total st := by
          have := of_decide_eq_true h'
          rw [sum_ints] at this; omega
        exact ⟨sl1, fun l hl => refuse hI z (if_pos (.inr ht)) (Same.refl H) hl⟩
      · have ht : ¬ 7 < Uw78.total st := fun q => h' (decide_eq_true (by rw [sum_ints]; omega))
        have e : Uw78.step x (.are st) = ({ x with stand := st }, [((Uw78.total st : Nat) : Int)]) := if_neg (by omega)
        rw [e] at z
        refine ⟨_, rfl, sa, _, rfl, .inl ⟨SqL.of hs, fun t ht' => ?_⟩⟩
        have s1 : Same H (upd H t (.tup (lv st))) := Same.new ht'
        refine ⟨_, rfl, p, C, dx, _, rfl, s1 _ _ hp, T.cl, T.nS, (by show 3 < 1000; decide), ?_⟩
        rw [isf_put_s]
        have ntp : t ≠ p := fun e => by subst e; rw [hp] at ht'; cases ht'
        have x1 : SameX p (upd H t (.tup (lv st))) (upd (upd H t (.tup (lv st))) p (.ins C dx (isf x.k dB t))) := SameX.own
        have hp2 : (upd (upd H t (.tup (lv st))) p (.ins C dx (isf x.k dB t))) p = some (.ins C dx (isf x.k dB t)) := upd_same
        have hsa : (upd (upd H t (.tup (lv st))) p (.ins C dx (isf x.k dB t))) sa = some (.lst (lv st)) := x1.at_ (s1 _ _ hp) (s1 _ _ hs) (by intro q; cases q)
        have htt : (upd (upd H t (.tup (lv st))) p (.ins C dx (isf x.k dB t))) t = some (.tup (lv st)) := by rw [upd_ne ntp, upd_same]
        have r2 := (hR.move s1.t (fun kvs e => s1 _ _ e)).x x1 (s1 _ _ hp)
        have a2 : Al (upd H t (.tup (lv st))) (upd (upd H t (.tup (lv st))) p (.ins C dx (isf x.k dB t))) := Al.put
        generalize (upd (upd H t (.tup (lv st))) p (.ins C dx (isf x.k dB t))) = H2 at *
        refine ⟨_, rfl, sa, Uw78.ints st, rfl, by rw [← lv_ints]; exact SqL.of hsa, sl1, fun l hl => ?_⟩
        have s7 : Same H2 (upd H2 l (.lst [.int (Uw78.ints st).sum])) := Same.new hl
        refine z _ l ⟨dx, dB, t, s7 _ _ hp2, r2.move s7.t (fun kvs e => s7 _ _ e), s7 _ _ htt⟩ (s1.x.trans (x1.trans s7.x)).keep (st_new (s7 _ _ hp2) ht') ((s1.al.trans a2) l hl) ?_
        rw [upd_same, sum_ints]; rfl
theorem scMeet : FnScope ["self", "a", "b", "pair", "changed"] ["self", "a", "b"] (defScope sMeet) := ⟨rfl, rfl, rfl, by decide +kernel, rfl, by decide +kernel, by decide +kernel⟩
theorem ok_meet {f C fL : Addr} {fd fdL : FuncData} (F : Fun K "meet" "Island.meet" sMeet f fd) (T : Txt K mg C) (D : Defs K mg) (ML : Mt K C "lacks_any" "Island.lacks_any" sLacks ["self", "named"] fL fdL) :
    FnOk P w K mg base CX0 2 f fd ["self", "a", "b"] (spMeet C) := by
  obtain ⟨fO, fdO, DO⟩ := D.ord
  obtain ⟨fT, fdT, DT⟩ := D.there
  obtain ⟨fB, fdB, DB⟩ := D.behind
  have GO : FnOk P w K mg base CX0 1 fO fdO ["a", "b"] spOrd := ok_ord DO.fn
  have GT : FnOk P w K mg base CX0 1 fT fdT ["stand", "pair"] spThere := ok_there DT.fn
  have GB : FnOk P w K mg base CX0 1 fB fdB ["stand", "pair", "changed"] spBehind := ok_behind DB.fn T.b
  have GL : FnOk P w K mg base CX0 1 fL fdL ["self", "named"] (spLacks C) := ok_lacks ML.fn T
  obtain ⟨_, mN⟩ := T.noSuch
  obtain ⟨_, mT⟩ := T.notThere
  obtain ⟨_, mC⟩ := T.noChange
  refine F.ok scMeet (fun vs H Q E h => ?_) (fun cdv A outer s H vs Q E hr h => ?_)
  · obtain ⟨_, _, _, rfl, _⟩ := h
    rfl
  · obtain ⟨p, a, b, rfl, x, hI, wf, z⟩ := h
    obtain ⟨dx, dB, sB, hp, hR, hS⟩ := hI.ex
    have hu := hu_of hr
    have hu64 := hr.units
    refine ⟨_, pss_cons (ps_if (pt_val (pe_meth (pv 0) T.cl ML.m GL hr ML.b .nil pass0 (pa_cons (pe_tup (pa_cons (pv 1) (pa_cons (pv 2) pa_nil))) pa_nil)))
        (pss_one (ps_ret (pe_lst (pa_cons (pe_glob rfl mN (v := .int (-1)) ⟨_, rfl⟩) pa_nil)))) pss_nil)
      (pss_cons (ps_set (i := 3) scMeet.nd rfl (Or.inl rfl) (pe_call GO hr rfl DO.m DO.fn.kp DO.b .nil pass0 (pa_cons (pv 1) (pa_cons (pv 2) pa_nil))))
      (pss_cons (ps_if (pt_not (pt_val (pe_call GT hr rfl DT.m DT.fn.kp DT.b .nil pass0 (pa_cons (pe_fld (pv 0) rfl) (pa_cons (pv 3) pa_nil)))))
        (pss_one (ps_ret (pe_lst (pa_cons (pe_glob rfl mT (v := .int (-2)) ⟨_, rfl⟩) pa_nil)))) pss_nil)
      (pss_cons (ps_set (i := 4) scMeet.nd rfl (Or.inl rfl) (pe_dget hu (pe_fld (pv 0) rfl) (pv 3) (fun _ _ => rfl)))
      (pss_cons (ps_if (pt_cmpR (op_eqD hu64) (pv 4) (pv 3) (nomark _))
        (pss_one (ps_ret (pe_lst (pa_cons (pe_glob rfl mC (v := .int (-4)) ⟨_, rfl⟩) pa_nil)))) pss_nil)
      (pss_cons (ps_fld (pv 0) (pe_call GB hr rfl DB.m DB.fn.kp DB.b .nil pass0 (pa_cons (pe_fld (pv 0) rfl) (pa_cons (pv 3) (pa_cons (pv 4) pa_nil)))) rfl)
      (pss_one (ps_ret (pe_callTy call_list_of rfl T.b.list PyProof.Rows.boot_list (pa_cons (pe_fld (pv 0) rfl) pa_nil))))))))), ?_⟩
    refine ⟨_, rfl, p, dx, _, rfl, hp, isf_no _ _ _ (by decide +kernel) (by decide +kernel) (by decide +kernel), _, rfl, _, rfl, sl2, fun n hn => ?_⟩
    have s1 : Same H (upd H n (.tup [iv a, iv b])) := Same.new hn
    refine ⟨p, n, dx, dB, sB, x.k, [a, b], rfl, s1 _ _ hp, upd_same, _, rfl, ite2 (fun h => ?_) (fun h => ?_)⟩
    · have hk : x.k ≤ a ∨ x.k ≤ b := by
        obtain ⟨y, hy, hle⟩ := ordered_lacks.mp h
        simp at hy
        rcases hy with rfl | rfl
        · exact .inl hle
        · exact .inr hle
      exact ⟨sl1, fun l hl => refuse hI z (if_pos hk) s1 hl⟩
    · have ha : a < x.k := Nat.lt_of_not_le fun q => h (ordered_lacks.mpr ⟨a, by simp, q⟩)
      have hb : b < x.k := Nat.lt_of_not_le fun q => h (ordered_lacks.mpr ⟨b, by simp, q⟩)
      have hle := Ch.ordered_le a b
      have hlt := Ch.ordered_lt ha hb
      have e0 : Uw78.step x (.meet a b) = if Uw78.areThere x.stand (Uw78.ordered a b).1 (Uw78.ordered a b).2 = false then (x, [-2]) else
          match (Uw78.may x.rules x.stand).find? fun r => r.a == (Uw78.ordered a b).1 && r.b == (Uw78.ordered a b).2 with
          | none => (x, [-4])
          | some r => ({ x with stand := Uw78.behind x.stand r }, Uw78.ints (Uw78.behind x.stand r)) := if_neg (by omega)
      obtain ⟨r, hr1, ea, eb⟩ := wf.at_ hle hlt
      have eo : Uw78.ordered a b = (r.a, r.b) := Prod.ext ea.symm eb.symm
      have hab := wf.ab hr1
      have hcd := wf.cd r hr1
      have hlen := wf.len
      rw [eo] at e0
      refine ⟨_, rfl, _, rfl, a, b, rfl, fun t ht => ?_⟩
      rw [eo]
      have s2 : Same H (upd (upd H n (.tup [iv a, iv b])) t (.tup (pv2 (r.a, r.b)))) := s1.trans (Same.new ht)
      have t2 : (upd (upd H n (.tup [iv a, iv b])) t (.tup (pv2 (r.a, r.b)))) t = some (.tup (pv2 (r.a, r.b))) := upd_same
      generalize (upd (upd H n (.tup [iv a, iv b])) t (.tup (pv2 (r.a, r.b)))) = H2 at *
      refine ⟨_, rfl, p, C, dx, _, _, rfl, s2 _ _ hp, T.cl, T.nS, isf_s _ _ _, _, rfl, sB, t, x.stand, r.a, r.b, rfl, s2 _ _ hS, t2, by omega, by omega, _, rfl, ?_⟩
      cases et : Uw78.areThere x.stand r.a r.b with
      | false =>
        refine iteT ?_
        rw [show Uw78.areThere x.stand (r.a, r.b).1 (r.a, r.b).2 = false from et, if_pos rfl] at e0
        exact ⟨sl1, fun l hl => refuse hI z e0 s2 hl⟩
      | true =>
        refine iteF ?_
        rw [show Uw78.areThere x.stand (r.a, r.b).1 (r.a, r.b).2 = true from et, if_neg (by decide)] at e0
        have ef := Ch.may_find wf hr1 et
        obtain ⟨kvs, d2, pr2⟩ := (hR.move s2.t (fun kvs e => s2 _ _ e)).ex
        obtain ⟨q, hv, hq⟩ := kv_some pr2 wf.nd hr1
        have g : DGet H2 dB (.ref t) (some (.ref q)) := by
          rw [← hv]; exact DGet.t (k := kk r.a r.b) d2 t2
        refine ⟨_, rfl, p, C, dx, _, _, rfl, s2 _ _ hp, T.cl, T.nB, isf_b _ _ _, _, rfl, dB, _, rfl, g, ?_⟩
        refine ⟨_, rfl, _, rfl, _, _, .tup (SqT.of hq) (.cons (.int _) (.cons (.int _) .nil)), .tup (SqT.of t2) (.cons (.int _) (.cons (.int _) .nil)), rfl, rfl, _, rfl, ?_⟩
        have e1 : PyData.eqv (.tuple [.int (r.c : Int), .int (r.d : Int)]) (.tuple [.int ((r.a, r.b).1 : Int), .int ((r.a, r.b).2 : Int)]) = !Uw78.changes r := by
          rw [← ne_pair r, Bool.not_not]
        rw [e1]
        cases ec : Uw78.changes r with
        | false =>
          refine iteT ?_
          rw [ec, if_neg (by decide)] at ef
          rw [ef] at e0
          exact ⟨sl1, fun l hl => refuse hI z e0 s2 hl⟩
        | true =>
          refine iteF ?_
          rw [ec, if_pos rfl] at ef
          rw [ef] at e0
          have e2 : Uw78.step x (.meet a b) = ({ x with stand := Uw78.behind x.stand r }, Uw78.ints (Uw78.behind x.stand r)) := e0
          rw [e2] at z
          refine ⟨_, rfl, p, C, dx, _, _, rfl, s2 _ _ hp, T.cl, T.nS, isf_s _ _ _, _, rfl, _, rfl, sB, t, q, x.stand, r, rfl, s2 _ _ hS, t2, hq, by omega, by omega, by omega, by omega, et, fun H3 l hl s3 h3 => ?_⟩
          have s03 := s2.trans s3
          refine ⟨_, rfl, p, C, dx, _, rfl, s03 _ _ hp, T.cl, T.nS, (by show 3 < 1000; decide), ?_⟩
          rw [isf_put_s]
          have x1 : SameX p H3 (upd H3 p (.ins C dx (isf x.k dB l))) := SameX.own
          have hp4 : upd H3 p (.ins C dx (isf x.k dB l)) p = some (.ins C dx (isf x.k dB l)) := upd_same
          have r4 := (hR.move s03.t (fun kvs e => s03 _ _ e)).x x1 (s03 _ _ hp)
          have l4 := x1.at_ (s03 _ _ hp) h3 (by intro q; cases q)
          have a4 : Al H3 (upd H3 p (.ins C dx (isf x.k dB l))) := Al.put
          generalize upd H3 p (.ins C dx (isf x.k dB l)) = H4 at *
          refine ⟨_, rfl, p, C, dx, _, _, rfl, hp4, T.cl, T.nS, isf_s _ _ _, l, _, rfl, .inr (SqT.of l4), fun l2 hl2 => ?_⟩
          have s5 : Same H4 (upd H4 l2 (.lst (lv (Uw78.behind x.stand r)))) := Same.new hl2
          refine z _ l2 ⟨dx, dB, l, s5 _ _ hp4, r4.move s5.t (fun kvs e => s5 _ _ e), s5 _ _ l4⟩ (s03.x.trans (x1.trans s5.x)).keep (st_new (s5 _ _ hp4) (s2.free hl)) ((s03.al.trans a4) l2 hl2) ?_
          rw [upd_same, lv_ints]
theorem flat_len : ∀ l : List (Nat × Nat), (l.flatMap pv2).length = 2 * l.length
  | [] => rfl
  | a :: l => by rw [List.flatMap_cons, List.length_append, flat_len l]; show 2 + 2 * l.length = 2 * (l.length + 1); omega
def spTold : Sp := fun vs H Q _ => ∃ (m : Addr) (ts : List Addr) (ps : List (Nat × Nat)), vs = [.ref m] ∧ H m = some (.lst (ts.map V.ref)) ∧ TupsAt H ts ps ∧ ps.length ≤ 1000 ∧ ∀ (H' : Hp) (l : Addr), H l = none → Same H H' → H' l = some (.lst (iv ps.length :: ps.flatMap pv2)) → Q (.ref l) H'
theorem scTold : FnScope ["meetings", "told", "pair"] ["meetings"] (defScope sTold) := ⟨rfl, rfl, rfl, by decide +kernel, rfl, by decide +kernel, by decide +kernel⟩
theorem ok_told {f : Addr} {fd : FuncData} (F : Fun K "told_meetings" "told_meetings" sTold f fd) (B : Blt mg) : FnOk P w K mg base CX0 1 f fd ["meetings"] spTold := by
  refine F.ok scTold (fun vs H Q E h => ?_) (fun cdv A outer s H vs Q E hr h => ?_)
  · obtain ⟨_, _, _, rfl, _⟩ := h
    rfl
  · obtain ⟨m, ts, ps, rfl, hm, t1, hn, z⟩ := h
    refine ⟨_, pss_cons (ps_set (i := 1) scTold.nd rfl (Or.inl rfl) (pe_lst (pa_cons (pe_callB call_len_seq (by rfl) B.len PySem.boot_len (pa_cons (pv 0) pa_nil)) pa_nil)))
      (pss_cons (ps_for PassesOwn.never rfl (pi_list (pv 0)) (pg_name (i := 2) scTold.nd rfl (Or.inl rfl))
        (pss_one (ps_expr (pe_bm PySem.F.plainAttrs_list PySem.F.slot_list_extend PySem.F.type_list_extend mt_extendT (pv 1) (pa_cons (pv 2) pa_nil)))))
      (pss_one (ps_ret (pv 1)))), ?_⟩
    have tl : ts.length = ps.length := Paired.length t1
    refine ⟨_, rfl, m, _, rfl, .inl (SqL.of hm), sl1, fun la hla => ?_⟩
    have s2 : Same H (upd H la (.lst [.int ((ts.map V.ref).length : Int)])) := Same.new hla
    refine ⟨_, rfl, m, rfl, ⟨_, SqL.of (s2 _ _ hm)⟩, for_list (K := K) (a := m) (xs := ts.map V.ref) (fun i σ H' => ∃ v3 : Option V, σ = [some (.ref m), some (.ref la), v3] ∧ Same H H' ∧ H' la = some (.lst (.int ((ts.map V.ref).length : Int) :: (ps.take i).flatMap pv2)))
      ⟨none, rfl, s2, upd_same⟩ (fun i σ H' _ ⟨_, _, s3, _⟩ => SqL.of (s3 _ _ hm)) ?_ ?_⟩
    · rintro i y σ H' hi ⟨v3, rfl, s3, h3⟩
      rw [List.getElem?_map] at hi
      cases e : ts[i]? with
      | none => rw [e] at hi; cases hi
      | some t =>
        rw [e] at hi
        cases hi
        obtain ⟨pp, hpp, ht⟩ := t1.get e
        refine ⟨_, rfl, .inl ⟨rfl, _, SqL.of h3⟩, _, rfl, la, t, _, _, rfl, rfl, h3, SqT.of (s3 _ _ ht), ?_, ?_⟩
        · rw [List.length_cons, flat_len, List.length_take, sizeLine_eq]
          show _ + 2 ≤ _
          omega
        · refine ⟨_, rfl, s3.put hla, ?_⟩
          rw [upd_same, List.take_add_one, hpp, List.flatMap_append]
          show some (HO.lst (_ ++ _)) = some (HO.lst (_ :: (_ ++ (pv2 pp ++ []))))
          rw [List.append_nil]
          rfl
    · rintro σ H' ⟨v3, rfl, s3, h3⟩
      refine ⟨_, rfl, ?_⟩
      refine z H' la hla s3 ?_
      rw [h3, List.length_map, tl, List.take_length]
theorem scMay : FnScope ["self"] ["self"] (defScope sMay) := ⟨rfl, rfl, rfl, by decide +kernel, rfl, by decide +kernel, by decide +kernel⟩
theorem ok_may {f C : Addr} {fd : FuncData} (F : Fun K "may" "Island.may" sMay f fd) (T : Txt K mg C) (D : Defs K mg) : FnOk P w K mg base CX0 3 f fd ["self"] (spMay C) := by
  obtain ⟨fP, fdP, DP⟩ := D.pairs
  obtain ⟨fT, fdT, DT⟩ := D.there
  obtain ⟨fM, fdM, DM⟩ := D.poss
  obtain ⟨fO, fdO, DO⟩ := D.told
  have GM : FnOk P w K mg base CX0 2 fM fdM ["becomes", "stand"] spPoss := ok_poss DM.fn T.b DP DT
  have GO : FnOk P w K mg base CX0 1 fO fdO ["meetings"] spTold := ok_told DO.fn T.b
  refine F.ok scMay (fun vs H Q E h => ?_) (fun cdv A outer s H vs Q E hr h => ?_)
  · obtain ⟨_, rfl, _⟩ := h
    rfl
  · obtain ⟨p, rfl, x, hI, wf, z⟩ := h
    obtain ⟨dx, dB, sB, hp, hR, hS⟩ := hI.ex
    have hr1 := hr.mono (show 1 ≤ 2 by decide)
    refine ⟨_, pss_one (ps_ret (pe_call GO hr1 rfl DO.m DO.fn.kp DO.b .nil pass0 (pa_cons (pe_call GM hr rfl DM.m DM.fn.kp DM.b .nil pass0 (pa_cons (pe_fld (pv 0) rfl) (pa_cons (pe_fld (pv 0) rfl) pa_nil))) pa_nil))), ?_⟩
    refine ⟨_, rfl, p, C, dx, _, _, rfl, hp, T.cl, T.nB, isf_b _ _ _, _, rfl, p, C, dx, _, _, rfl, hp, T.cl, T.nS, isf_s _ _ _, dB, sB, x.rules, x.stand, x.k, rfl, hR, hS, wf.len, wf.k2, wf.k4, wf.keys, fun H1 l ts hl s1 h1 t1 => ?_⟩
    have ml : (Uw78.may x.rules x.stand).length ≤ 10 := Nat.le_trans (List.length_filter_le _ _) wf.rlen
    refine ⟨l, ts, _, rfl, h1, t1, by rw [List.length_map]; omega, fun H2 la hla s2 h2 => ?_⟩
    refine same_out hI z rfl (s1.trans s2) (s1.free hla) ?_
    rw [h2, ← flat_pairs, List.length_map]
    rfl
end
end Isl

end

section
set_option Elab.async false
set_option linter.all false
set_option maxRecDepth 100000
set_option maxHeartbeats 4000000
namespace Isl
open PySem PySem.Spec PyProof.Rows L2
/-! ### stands as keys -/
abbrev kst (s : List Nat) : List Key := s.map fun (n : Nat) => (Sum.inl (n : Int) : Key)
theorem kst_kV (s : List Nat) : (kst s).map kV = lv s := by
  unfold lv
  rw [List.map_map]
  rfl
theorem kst_inj : ∀ {a b : List Nat}, kst a = kst b → a = b
  | [], [], _ => rfl
  | x :: a, y :: b, h => by
    have h1 := Sum.inl.inj (List.cons.inj h).1
    rw [kst_inj (List.cons.inj h).2, show x = y by omega]
  | [], _ :: _, h => by cases h
  | _ :: _, [], h => by cases h
theorem tup_k {H : Hp} {t : Addr} {s : List Nat} (h : H t = some (.tup (lv s))) : H t = some (.tup ((kst s).map kV)) := by rw [kst_kV]; exact h
theorem k_tup {H : Hp} {t : Addr} {s : List Nat} (h : H t = some (.tup ((kst s).map kV))) : H t = some (.tup (lv s)) := by rw [← kst_kV]; exact h
/-- the tuples at ts are the stands ss -/
def StdsAt (H : Hp) (ts : List Addr) (ss : List (List Nat)) : Prop := Paired (fun t s => H t = some (.tup (lv s))) ts ss
theorem StdsAt.same {H H' : Hp} {ts : List Addr} {ss : List (List Nat)} (h : StdsAt H ts ss) (s : SameT H H') : StdsAt H' ts ss := Paired.mapP h fun _ _ q => s _ _ q
theorem StdsAt.get {H : Hp} {ts : List Addr} {ss : List (List Nat)} (h : StdsAt H ts ss) {i : Nat} {t : Addr} (e : ts[i]? = some t) : ∃ s, ss[i]? = some s ∧ H t = some (.tup (lv s)) := paired_get h e
theorem paired_at {α β : Type} {G : α → β → Prop} {l : List α} {m : List β} (h : Paired G l m) : ∀ {i : Nat} {b : β}, m[i]? = some b → ∃ a, l[i]? = some a ∧ G a b := by
  induction h with
  | nil => intro i b e; cases e
  | cons hg _ ih =>
    intro i b e
    cases i with
    | zero => cases e; exact ⟨_, rfl, hg⟩
    | succ i => exact ih e
/-! ### the dict of ways -/
def WayKv (H : Hp) (kv : List Key × V) (w : Uw78.Way) : Prop := kv.1 = kst w.stand ∧ ∃ q ts, kv.2 = .ref q ∧ H q = some (.lst (ts.map V.ref)) ∧ TupsAt H ts w.row
structure WaysAt (H : Hp) (d : Addr) (ws : List Uw78.Way) : Prop where
  ex : ∃ kvs, H d = some (.dT kvs) ∧ Paired (WayKv H) kvs ws
theorem WaysAt.same {H H' : Hp} {d : Addr} {ws : List Uw78.Way} (h : WaysAt H d ws) (s : Same H H') : WaysAt H' d ws := by
  obtain ⟨kvs, h1, h2⟩ := h.ex
  exact ⟨kvs, s _ _ h1, Paired.mapP h2 fun kv w ⟨e1, q, ts, e2, e3, e4⟩ => ⟨e1, q, ts, e2, s _ _ e3, e4.same s.t⟩⟩
theorem way_find {H : Hp} : ∀ {kvs : List (List Key × V)} {ws : List Uw78.Way}, Paired (WayKv H) kvs ws → ∀ s : List Nat, (valV kvs (kst s) = none ∧ ws.find? (fun w => w.stand == s) = none) ∨
    ∃ w q ts, ws.find? (fun w => w.stand == s) = some w ∧ valV kvs (kst s) = some (.ref q) ∧ H q = some (.lst (ts.map V.ref)) ∧ TupsAt H ts w.row
  | _, _, .nil, _ => .inl ⟨rfl, rfl⟩
  | kv :: _, w :: _, .cons h t, s => by
    obtain ⟨e1, q, ts, e2, e3, e4⟩ := h
    by_cases e : w.stand = s
    · refine .inr ⟨w, q, ts, ?_, ?_, e3, e4⟩
      · rw [List.find?_cons, e, beq_self_eq_true]
      · rw [valV_pos (by rw [e1, e]), e2]
    · have e' : ¬ kv.1 = kst s := fun z => e (kst_inj (e1.symm.trans z))
      have e'' : (w.stand == s) = false := beq_eq_false_iff_ne.mpr e
      rw [valV_neg e', List.find?_cons, e'']
      exact way_find t s
/-- all but the things at e and c is as it was -/
def SX2 (e c : Addr) (H H' : Hp) : Prop := ∀ b o, H b = some o → b ≠ e → b ≠ c → H' b = some o
theorem SX2.trans {e c : Addr} {H H1 H2 : Hp} (a : SX2 e c H H1) (b : SX2 e c H1 H2) : SX2 e c H H2 := fun x o h n1 n2 => b x o (a x o h n1 n2) n1 n2
theorem SX2.of {e c : Addr} {H H' : Hp} (s : Same H H') : SX2 e c H H' := fun b o h _ _ => s b o h
theorem SX2.pe {e c : Addr} {H : Hp} {o : HO} : SX2 e c H (upd H e o) := fun b o h n _ => by rw [upd_ne n]; exact h
theorem SX2.pc {e c : Addr} {H : Hp} {o : HO} : SX2 e c H (upd H c o) := fun b o h _ n => by rw [upd_ne n]; exact h
theorem SX2.t {e c : Addr} {H H' : Hp} {kvs : List (List Key × V)} {xs : List V} (s : SX2 e c H H') (he : H e = some (.dT kvs)) (hc : H c = some (.lst xs)) : SameT H H' := fun b ys h =>
  s b _ h (ne_of h he (by intro q; cases q)) (ne_of h hc (by intro q; cases q))
theorem SX2.way {e c : Addr} {H H' : Hp} {kvs : List (List Key × V)} {xs : List V} (s : SX2 e c H H') (he : H e = some (.dT kvs)) (hc : H c = some (.lst xs)) {kv : List Key × V} {w : Uw78.Way} (h : WayKv H kv w ∧ kv.2 ≠ .ref c) : WayKv H' kv w ∧ kv.2 ≠ .ref c := by
  obtain ⟨⟨e1, q, ts, e2, e3, e4⟩, n⟩ := h
  refine ⟨⟨e1, q, ts, e2, s _ _ e3 (ne_of e3 he (by intro q; cases q)) (fun z => n (by rw [e2, z])), e4.same (s.t he hc)⟩, n⟩
def spWays : Sp := fun vs H Q _ => ∃ (d s : Addr) (rs : List Uw78.Rule) (st : List Nat) (k n : Nat), vs = [.ref d, .ref s] ∧ RulesAt H d rs ∧ H s = some (.tup (lv st)) ∧ Ch.Ok k n rs ∧ Ch.Std k n st ∧ 2 ≤ k ∧ rs.map Ch.key = Uw78.twos k ∧
  ∀ (H' : Hp) (e : Addr), H e = none → Same H H' → WaysAt H' e (Uw78.comes rs st) → Q (.ref e) H'
section
variable {P : Program} {w : World} {K : PySem.W.Frag} {mg : Str → Option Value} {base : Heap}
theorem scWays : FnScope ["becomes", "stand", "ways", "coming", "at", "now", "pair", "behind"] ["becomes", "stand"] (defScope sWays) := ⟨rfl, rfl, rfl, by decide +kernel, rfl, by decide +kernel, by decide +kernel⟩
theorem ok_ways {f : Addr} {fd : FuncData} (F : Fun K "first_ways" "first_ways" sWays f fd) (B : Blt mg) (D : Defs K mg) : FnOk P w K mg base CX0 3 f fd ["becomes", "stand"] spWays := by
  obtain ⟨fP, fdP, DP⟩ := D.pairs
  obtain ⟨fT, fdT, DT⟩ := D.there
  obtain ⟨fM, fdM, DM⟩ := D.poss
  obtain ⟨fB, fdB, DB⟩ := D.behind
  have GM : FnOk P w K mg base CX0 2 fM fdM ["becomes", "stand"] spPoss := ok_poss DM.fn B DP DT
  have GB : FnOk P w K mg base CX0 1 fB fdB ["stand", "pair", "changed"] spBehind := ok_behind DB.fn B
  refine F.ok scWays (fun vs H Q E h => ?_) (fun cdv A outer s H vs Q E hr h => ?_)
  · obtain ⟨_, _, _, _, _, _, rfl, _⟩ := h
    rfl
  · obtain ⟨d, sa, rs, st, k, n, rfl, hR, hs, ok, std, k2, keys, z⟩ := h
    have hu := hu_of hr
    have hu0 : A.units < cLine → True := fun _ => trivial
    have hr1 := hr.mono (show 1 ≤ 2 by decide)
    refine ⟨_, pss_cons (ps_set (i := 2) scWays.nd rfl (Or.inl rfl) (pe_disp1 (Nat.lt_of_succ_lt hu) (pv 1) (pe_lst pa_nil)))
      (pss_cons (ps_set (i := 3) scWays.nd rfl (Or.inl rfl) (pe_lst (pa_cons (pv 1) pa_nil)))
      (pss_cons (ps_set (i := 4) scWays.nd rfl (Or.inl rfl) pe_int)
      (pss_cons (ps_while PassesOwn.never (pt_cmpR op_lt (pv 4) (pe_callB call_len_seq (by rfl) B.len PySem.boot_len (pa_cons (pv 3) pa_nil)) (nomark _))
        (pss_cons (ps_set (i := 5) scWays.nd rfl (Or.inl rfl) (pe_ix ix_list (pv 3) (pv 4) (fun _ _ => rfl)))
        (pss_cons (ps_for PassesOwn.never rfl (pi_list (pe_call GM hr rfl DM.m DM.fn.kp DM.b .nil pass0 (pa_cons (pv 0) (pa_cons (pv 5) pa_nil)))) (pg_name (i := 6) scWays.nd rfl (Or.inl rfl))
          (pss_cons (ps_set (i := 7) scWays.nd rfl (Or.inl rfl) (pe_call GB hr1 rfl DB.m DB.fn.kp DB.b .nil pass0 (pa_cons (pv 5) (pa_cons (pv 6) (pa_cons (pe_dget hu (pv 0) (pv 6) (fun _ _ => rfl)) pa_nil)))))
          (pss_one (ps_if (pt_cmp (pc_dnotin hu (pv 7) (pv 2)))
            (pss_cons (ps_dput hu (pv 2) (pv 7) (pe_op op_cat (pe_dget hu (pv 2) (pv 5) (fun _ _ => rfl)) (pe_lst (pa_cons (pv 6) pa_nil))) rfl)
            (pss_one (ps_expr (pe_bm PySem.F.plainAttrs_list PySem.F.slot_list_append PySem.F.type_list_append mt_append (pv 3) (pa_cons (pv 7) pa_nil)))))
            pss_nil))))
        (pss_one (ps_aug (i := 4) scWays.nd rfl (Or.inl rfl) pe_int ip_add)))))
      (pss_one (ps_ret (pv 2)))))), ?_⟩
    intro e he
    refine ⟨_, rfl, Nat.zero_le _, fun q hq => ⟨kst st, sa, ?_, rfl, ?_, ?_⟩⟩
    · rw [upd_ne (fun z => by rw [← z, upd_same] at hq; cases hq), upd_same]
    · rw [upd_ne (ne_of_none ((Same.new he) _ _ hs) hq)]; exact tup_k ((Same.new he) _ _ hs)
    have s1 : Same H (upd (upd (upd H e (.dT [])) q (.lst [])) e (.dT [(kst st, .ref q)])) := ((Same.new he).trans (Same.new hq)).put he
    have nqe : q ≠ e := fun z => by rw [z, upd_same] at hq; cases hq
    have e1 : (upd (upd (upd H e (.dT [])) q (.lst [])) e (.dT [(kst st, .ref q)])) e = some (.dT [(kst st, .ref q)]) := upd_same
    have q1 : (upd (upd (upd H e (.dT [])) q (.lst [])) e (.dT [(kst st, .ref q)])) q = some (.lst []) := by rw [upd_ne nqe, upd_same]
    generalize (upd (upd (upd H e (.dT [])) q (.lst [])) e (.dT [(kst st, .ref q)])) = H1 at *
    refine ⟨_, rfl, sl1, fun c hc => ?_⟩
    have s2 : Same H1 (upd H1 c (.lst [.ref sa])) := Same.new hc
    refine ⟨fun m σ H' => ∃ (i : Nat) (v5 v6 v7 : Option V) (kvs : List (List Key × V)) (cs : List Addr), m = 121 - i ∧ i ≤ 120 ∧ σ = [some (.ref d), some (.ref sa), some (.ref e), some (.ref c), some (iv i), v5, v6, v7] ∧ Same H H' ∧
        H' e = some (.dT kvs) ∧ Paired (fun kv w => WayKv H' kv w ∧ kv.2 ≠ .ref c) kvs (Ch.bfs rs st i) ∧ H' c = some (.lst (cs.map V.ref)) ∧ StdsAt H' cs ((Ch.bfs rs st i).map fun w => w.stand),
      ⟨121, 0, none, none, none, _, [sa], rfl, by decide, rfl, s1.trans s2, s2 _ _ e1, .cons ⟨⟨rfl, q, [], rfl, s2 _ _ q1, .nil⟩, fun z => by cases z; rw [q1] at hc; cases hc⟩ .nil, upd_same, .cons (s2 _ _ (s1 _ _ hs)) .nil⟩, ?_⟩
    rintro m σ H' ⟨i, v5, v6, v7, kvs, cs, rfl, hi, rfl, sH, hE, pE, hC, pC⟩
    have cl : cs.length = (Ch.bfs rs st i).length := by have := Paired.length pC; rw [List.length_map] at this; exact this
    have bl := Ch.bfs_len ok std i
    refine ⟨_, rfl, _, rfl, c, _, rfl, .inl (SqL.of hC), _, _, rfl, rfl, _, rfl, ?_⟩
    rw [List.length_map, cl]
    by_cases hlt : i < (Ch.bfs rs st i).length
    · rw [decide_eq_true (show ((i : Nat) : Int) < (((Ch.bfs rs st i).length : Nat) : Int) by omega)]
      refine iteT ⟨_, fun σ' H' h => h, ?_⟩
      have hw : (Ch.bfs rs st i)[i]? = some (Ch.bfs rs st i)[i] := List.getElem?_eq_getElem hlt
      generalize (Ch.bfs rs st i)[i] = wy at hw
      obtain ⟨t, ht, hT⟩ := paired_at pC (i := i) (b := wy.stand) (by rw [List.getElem?_map, hw]; rfl)
      have wm : wy ∈ Ch.bfs rs st i := List.mem_of_getElem? hw
      have wstd := Ch.bfs_std ok std i wy wm
      have wlen : wy.stand.length = k := wstd.len
      refine ⟨_, rfl, _, rfl, c, _, _, _, rfl, rfl, SqL.of hC, atI_nat (by rw [List.getElem?_map, ht]; rfl), ?_⟩
      have R1 := hR.move sH.t (fun kvs e => sH _ _ e)
      refine ⟨_, rfl, _, rfl, d, t, rs, wy.stand, k, rfl, R1, hT, wlen, k2, ok.k4, keys, fun H2 l ts hl sl hL tL => ⟨l, rfl, ⟨_, SqL.of hL⟩, ?_⟩⟩
      have E2 := sl _ _ hE
      have C2 := sl _ _ hC
      have nlc : l ≠ c := fun z => by rw [z, hC] at hl; cases hl
      have ml : (Uw78.may rs wy.stand).length ≤ 10 := by
        have h1 : (Uw78.may rs wy.stand).length ≤ rs.length := List.length_filter_le _ _
        have h2 := congrArg List.length keys
        rw [List.length_map] at h2
        have h3 := Ch.twos_len k2 ok.k4
        omega
      refine for_list (K := K) (a := l) (xs := ts.map V.ref) (fun j σ H' => ∃ (v6 v7 : Option V) (kvs : List (List Key × V)) (cs : List Addr), σ = [some (.ref d), some (.ref sa), some (.ref e), some (.ref c), some (iv i), some (.ref t), v6, v7] ∧ Same H H' ∧ SX2 e c H2 H' ∧
          H' e = some (.dT kvs) ∧ Paired (fun kv w => WayKv H' kv w ∧ kv.2 ≠ .ref c) kvs (((Uw78.may rs wy.stand).take j).foldl (Ch.add1 wy) (Ch.bfs rs st i)) ∧ H' c = some (.lst (cs.map V.ref)) ∧ StdsAt H' cs ((((Uw78.may rs wy.stand).take j).foldl (Ch.add1 wy) (Ch.bfs rs st i)).map fun w => w.stand))
        ⟨v6, v7, kvs, cs, rfl, sH.trans sl, SX2.of (Same.refl _), E2, Paired.mapP pE fun kv w h => (SX2.of sl).way hE hC h, C2, pC.same sl.t⟩ (fun j σ H' _ ⟨_, _, _, _, _, _, sx, _⟩ => SqL.of (sx _ _ hL (ne_of hL E2 (by intro q; cases q)) nlc)) ?_ ?_
      · rintro j x σ H3 hj ⟨v6, v7, kvs3, cs3, rfl, s3, sx, E3, pE3, C3, pC3⟩
        rw [List.getElem?_map] at hj
        cases etp : ts[j]? with
        | none => rw [etp] at hj; cases hj
        | some tp =>
          rw [etp] at hj
          cases hj
          obtain ⟨pk, hpk, htp⟩ := tL.get etp
          rw [List.getElem?_map] at hpk
          cases er : (Uw78.may rs wy.stand)[j]? with
          | none => rw [er] at hpk; cases hpk
          | some r =>
            rw [er] at hpk
            cases hpk
            have hrm := List.mem_of_getElem? er
            obtain ⟨r1, r2, r3⟩ := Ch.mem_may hrm
            obtain ⟨la, lb, lc, ld⟩ := ok.lt r r1
            have st2 := sx.t E2 C2
            have htp3 := st2 _ _ htp
            have ht3 : H3 t = some (.tup (lv wy.stand)) := st2 _ _ (sl _ _ hT)
            have R3 := hR.move s3.t (fun kvs e => s3 _ _ e)
            obtain ⟨kvr, dr, pr⟩ := R3.ex
            obtain ⟨qc, hv, hqc⟩ := kv_some pr (by rw [keys]; exact Ch.twos_nodup k2 ok.k4) r1
            have g : DGet H3 d (.ref tp) (some (.ref qc)) := by
              rw [← hv]; exact DGet.t (k := kk r.a r.b) dr htp3
            refine ⟨_, rfl, _, rfl, _, rfl, _, rfl, d, _, rfl, g, t, tp, qc, wy.stand, r, rfl, ht3, htp3, hqc, by omega, by omega, by omega, by omega, r3, fun H4 b hb s4 h4 => ?_⟩
            have E4 := s4 _ _ E3
            have C4 := s4 _ _ C3
            have pE4 := Paired.mapP pE3 fun kv w h => (SX2.of (e := e) s4).way E3 C3 h
            have pC4 := pC3.same s4.t
            have sx4 := sx.trans (SX2.of s4)
            have pEw := Paired.mapP pE4 fun kv w h => h.1
            refine ⟨_, rfl, _, rfl, e, _, rfl, DGet.t (k := kst (Uw78.behind wy.stand r)) E4 (tup_k h4), _, rfl, ?_⟩
            have tk : ((Uw78.may rs wy.stand).take (j + 1)).foldl (Ch.add1 wy) (Ch.bfs rs st i) = Ch.add1 wy (((Uw78.may rs wy.stand).take j).foldl (Ch.add1 wy) (Ch.bfs rs st i)) r := Ch.fold_take _ er _
            have full : ∃ m, Ch.bfs rs st (i + 1) = ((Uw78.may rs wy.stand).take (j + 1)).foldl (Ch.add1 wy) (Ch.bfs rs st i) ++ m := by
              obtain ⟨m, em⟩ := Ch.fold_pre wy ((Uw78.may rs wy.stand).drop (j + 1)) (((Uw78.may rs wy.stand).take (j + 1)).foldl (Ch.add1 wy) (Ch.bfs rs st i))
              refine ⟨m, ?_⟩
              rw [← em, ← List.foldl_append, List.take_append_drop]
              exact Ch.bfs_succ hw
            have ndj : (((((Uw78.may rs wy.stand).take j).foldl (Ch.add1 wy) (Ch.bfs rs st i))).map fun w => w.stand).Nodup := Ch.fold_nd (Ch.bfs_nd rs st i)
            have wj : wy ∈ ((Uw78.may rs wy.stand).take j).foldl (Ch.add1 wy) (Ch.bfs rs st i) := by
              obtain ⟨m, em⟩ := Ch.fold_pre wy ((Uw78.may rs wy.stand).take j) (Ch.bfs rs st i)
              rw [em]; exact List.mem_append_left _ wm
            generalize ((Uw78.may rs wy.stand).take j).foldl (Ch.add1 wy) (Ch.bfs rs st i) = L at tk pE3 pC3 pE4 pC4 pEw ndj wj
            rw [tk]
            rw [tk] at full
            rcases way_find pEw (Uw78.behind wy.stand r) with ⟨vn, fn⟩ | ⟨w', q', ts', fs, vs', _, _⟩
            · have hno : Ch.has L (Uw78.behind wy.stand r) = false := by rw [Ch.has_find, fn]; rfl
              have ea : Ch.add1 wy L r = L ++ [⟨Uw78.behind wy.stand r, wy.row ++ [(r.a, r.b)]⟩] := by unfold Ch.add1; rw [hno]; exact if_neg Bool.false_ne_true
              rw [ea]
              rw [ea] at full
              obtain ⟨m, em⟩ := full
              have blen := Ch.bfs_len ok std (i + 1)
              rw [em, List.length_append, List.length_append, List.length_singleton] at blen
              rw [vn]
              refine iteT ?_
              rcases way_find pEw wy.stand with ⟨_, fn2⟩ | ⟨w2, qw, tw, fs2, vs2, hqw, ptw⟩
              · rw [Ch.find_of_nd ndj wj] at fn2; cases fn2
              rw [Ch.find_of_nd ndj wj] at fs2
              cases fs2
              have g2 : DGet H4 e (.ref t) (some (.ref qw)) := by
                rw [← vs2]; exact DGet.t (k := kst wy.stand) E4 (tup_k (s4 _ _ ht3))
              have rl := Ch.bfs_row i i wy hw
              have twl : tw.length = wy.row.length := Paired.length ptw
              refine ⟨_, rfl, _, rfl, e, _, rfl, g2, _, rfl, sl1, fun p1 hp1 => ?_⟩
              have s5 : Same H4 (upd H4 p1 (.lst [.ref tp])) := Same.new hp1
              have P5 : (upd H4 p1 (.lst [.ref tp])) p1 = some (.lst [.ref tp]) := upd_same
              generalize upd H4 p1 (.lst [.ref tp]) = H5 at *
              refine ⟨qw, p1, _, _, rfl, rfl, s5 _ _ hqw, P5, (by rw [List.length_map, sizeLine_eq]; show _ + 1 ≤ _; omega), fun p2 hp2 => ?_⟩
              have s6 : Same H5 (upd H5 p2 (.lst (tw.map V.ref ++ [.ref tp]))) := Same.new hp2
              have P6 : (upd H5 p2 (.lst (tw.map V.ref ++ [.ref tp]))) p2 = some (.lst (tw.map V.ref ++ [.ref tp])) := upd_same
              generalize upd H5 p2 (.lst (tw.map V.ref ++ [.ref tp])) = H6 at *
              have s46 := s5.trans s6
              have E6 := s46 _ _ E4
              have C6 := s46 _ _ C4
              have b6 := s46 _ _ h4
              have kl : kvs3.length ≤ 120 := by have := Paired.length pE3; omega
              refine ⟨_, rfl, _, rfl, e, _, rfl, DPut.t (k := kst (Uw78.behind wy.stand r)) E6 (tup_k b6) (by rw [sizeLine_eq]; omega), ?_⟩
              rw [putK_new _ vn]
              have nec : c ≠ e := ne_of C6 E6 (by intro q; cases q)
              have x7 : SX2 e c H6 (upd H6 e (.dT (kvs3 ++ [(kst (Uw78.behind wy.stand r), .ref p2)]))) := SX2.pe
              have E7 : (upd H6 e (.dT (kvs3 ++ [(kst (Uw78.behind wy.stand r), .ref p2)]))) e = some (.dT (kvs3 ++ [(kst (Uw78.behind wy.stand r), .ref p2)])) := upd_same
              have C7 : (upd H6 e (.dT (kvs3 ++ [(kst (Uw78.behind wy.stand r), .ref p2)]))) c = some (.lst (cs3.map V.ref)) := by rw [upd_ne nec]; exact C6
              generalize upd H6 e (.dT (kvs3 ++ [(kst (Uw78.behind wy.stand r), .ref p2)])) = H7 at *
              have cl3 : cs3.length ≤ 120 := by have := Paired.length pC3; rw [List.length_map] at this; omega
              refine ⟨_, rfl, .inl ⟨rfl, _, SqL.of C7⟩, _, rfl, c, _, _, rfl, rfl, C7, (by rw [List.length_map, sizeLine_eq]; omega), ?_⟩
              have x8 : SX2 e c H7 (upd H7 c (.lst (cs3.map V.ref ++ [.ref b]))) := SX2.pc
              have x48 : SX2 e c H4 (upd H7 c (.lst (cs3.map V.ref ++ [.ref b]))) := (SX2.of s46).trans (x7.trans x8)
              have x68 : SX2 e c H6 (upd H7 c (.lst (cs3.map V.ref ++ [.ref b]))) := x7.trans x8
              have np2c : p2 ≠ c := fun z => by rw [z, s5 _ _ C4] at hp2; cases hp2
              have np2e : p2 ≠ e := fun z => by rw [z, s5 _ _ E4] at hp2; cases hp2
              have he0 : ∀ b o, H b = some o → b ≠ e ∧ b ≠ c := fun b o h => ⟨ne_of_none h he, fun z => by rw [z] at h; rw [s1 _ _ h] at hc; cases hc⟩
              refine ⟨some (.ref tp), some (.ref b), kvs3 ++ [(kst (Uw78.behind wy.stand r), .ref p2)], cs3 ++ [b], rfl, fun b o h => (SX2.trans (SX2.of s4) x48) b o (s3 _ _ h) (he0 b o h).1 (he0 b o h).2, sx4.trans x48, ?_, ?_, ?_, ?_⟩
              · rw [upd_ne (Ne.symm nec)]; exact E7
              · refine Paired.snoc (Paired.mapP pE4 fun kv w h => x48.way E4 C4 h) ⟨⟨rfl, p2, tw ++ [tp], rfl, ?_, ?_⟩, fun z => np2c (by cases z; rfl)⟩
                · rw [List.map_append]; exact x68 _ _ P6 np2e np2c
                · exact Paired.snoc (ptw.same (x48.t E4 C4)) (x48.t E4 C4 _ _ (s4 _ _ htp3))
              · rw [upd_same, List.map_append]; rfl
              · rw [List.map_append]
                exact Paired.snoc (pC4.same (x48.t E4 C4)) (x68.t E6 C6 _ _ b6)
            · have hyes : Ch.has L (Uw78.behind wy.stand r) = true := by rw [Ch.has_find, fs]; rfl
              have ea : Ch.add1 wy L r = L := by unfold Ch.add1; rw [hyes]; exact if_pos rfl
              rw [ea, vs']
              refine iteF ?_
              exact ⟨some (.ref tp), some (.ref b), kvs3, cs3, rfl, s3.trans s4, sx4, E4, pE4, C4, pC4⟩
      · rintro σ H3 ⟨v6, v7, kvs3, cs3, rfl, s3, sx, E3, pE3, C3, pC3⟩
        have el : (ts.map V.ref).length = (Uw78.may rs wy.stand).length := by rw [List.length_map, Paired.length tL, List.length_map]
        have ef : Ch.bfs rs st (i + 1) = (Uw78.may rs wy.stand).foldl (Ch.add1 wy) (Ch.bfs rs st i) := Ch.bfs_succ hw
        rw [el, List.take_length, ← ef] at pE3 pC3
        refine ⟨_, rfl, _, _, rfl, rfl, 121 - (i + 1), by omega, i + 1, some (.ref t), v6, v7, kvs3, cs3, rfl, by omega, rfl, s3, E3, pE3, C3, pC3⟩
    · rw [decide_eq_false (show ¬ ((i : Nat) : Int) < (((Ch.bfs rs st i).length : Nat) : Int) by omega)]
      refine iteF ?_
      refine ⟨_, rfl, ?_⟩
      refine z _ e he sH ⟨kvs, hE, ?_⟩
      rw [Ch.comes_bfs ok std (i := i) (by omega)]
      exact Paired.mapP pE fun kv w h => h.1
end
end Isl

end

section
set_option Elab.async false
set_option linter.all false
set_option maxRecDepth 100000
set_option maxHeartbeats 4000000
namespace Isl
open PySem PySem.Spec PyProof.Rows L2
/-! ### those ahead of each stand -/
def ahK (A : List Nat → Addr) (W : List (List Nat)) : List (List Key × V) := W.map fun v => (kst v, V.ref (A v))
theorem ahK_in {A : List Nat → Addr} {v : List Nat} : ∀ {W : List (List Nat)}, v ∈ W → valV (ahK A W) (kst v) = some (.ref (A v))
  | u :: W, h => by
    by_cases e : u = v
    · subst e
      exact valV_pos (p := (kst u, V.ref (A u))) rfl
    · have n : ¬ ((kst u, V.ref (A u)) : List Key × V).1 = kst v := fun z => e (kst_inj z)
      show valV ((kst u, V.ref (A u)) :: ahK A W) (kst v) = _
      rw [valV_neg n]
      rcases List.mem_cons.mp h with rfl | h
      · exact absurd rfl e
      · exact ahK_in h
theorem ahK_out {A : List Nat → Addr} {v : List Nat} : ∀ {W : List (List Nat)}, v ∉ W → valV (ahK A W) (kst v) = none
  | [], _ => rfl
  | u :: W, h => by
    have n : ¬ ((kst u, V.ref (A u)) : List Key × V).1 = kst v := fun z => h (by rw [kst_inj z]; exact List.mem_cons_self)
    show valV ((kst u, V.ref (A u)) :: ahK A W) (kst v) = _
    rw [valV_neg n]
    exact ahK_out fun q => h (List.mem_cons_of_mem _ q)
def AhAt (H : Hp) (A : List Nat → Addr) (W : List (List Nat)) (E : List (List Nat × List Nat)) : Prop := ∀ v ∈ W, ∃ ts : List Addr, H (A v) = some (.lst (ts.map V.ref)) ∧ StdsAt H ts ((E.filter fun p => p.2 == v).map (·.1))
def spAhead : Sp := fun vs H Q _ => ∃ (d w : Addr) (rs : List Uw78.Rule) (ws : List Uw78.Way) (k n : Nat), vs = [.ref d, .ref w] ∧ d ≠ w ∧ RulesAt H d rs ∧ WaysAt H w ws ∧ Ch.Ok k n rs ∧ 2 ≤ k ∧ rs.map Ch.key = Uw78.twos k ∧ rs.length ≤ 10 ∧ ws.length ≤ 120 ∧ (ws.map fun w => w.stand).Nodup ∧
  (∀ u ∈ ws.map (fun w => w.stand), Ch.Std k n u ∧ ∀ r ∈ Uw78.may rs u, Uw78.behind u r ∈ ws.map fun w => w.stand) ∧
  ∀ (H' : Hp) (e : Addr) (A : List Nat → Addr), H e = none → Same H H' → H' e = some (.dT (ahK A (ws.map fun w => w.stand))) → AhAt H' A (ws.map fun w => w.stand) (Ch.edges rs (ws.map fun w => w.stand)) → Q (.ref e) H'
theorem take_succ_in {α : Type} {l : List α} {i : Nat} {x y : α} (h : l[i]? = some x) : y ∈ l.take (i + 1) ↔ y ∈ l.take i ∨ y = x := by
  rw [List.take_add_one, h, List.mem_append]
  show y ∈ l.take i ∨ y ∈ [x] ↔ _
  rw [List.mem_singleton]
section
variable {P : Program} {w : World} {K : PySem.W.Frag} {mg : Str → Option Value} {base : Heap}
theorem scAhead : FnScope ["becomes", "stands", "ahead", "stand", "pair", "behind"] ["becomes", "stands"] (defScope sAhead) := ⟨rfl, rfl, rfl, by decide +kernel, rfl, by decide +kernel, by decide +kernel⟩
theorem ok_ahead {f : Addr} {fd : FuncData} (F : Fun K "stands_ahead" "stands_ahead" sAhead f fd) (B : Blt mg) (D : Defs K mg) : FnOk P w K mg base CX0 3 f fd ["becomes", "stands"] spAhead := by
  obtain ⟨fP, fdP, DP⟩ := D.pairs
  obtain ⟨fT, fdT, DT⟩ := D.there
  obtain ⟨fM, fdM, DM⟩ := D.poss
  obtain ⟨fB, fdB, DB⟩ := D.behind
  have GM : FnOk P w K mg base CX0 2 fM fdM ["becomes", "stand"] spPoss := ok_poss DM.fn B DP DT
  have GB : FnOk P w K mg base CX0 1 fB fdB ["stand", "pair", "changed"] spBehind := ok_behind DB.fn B
  refine F.ok scAhead (fun vs H Q E h => ?_) (fun cdv A outer s H vs Q E hr h => ?_)
  · obtain ⟨_, _, _, _, _, _, rfl, _⟩ := h
    rfl
  · obtain ⟨d, w0, rs, ws, k, n, rfl, ndw, hR, hW, ok, k2, keys, rl, wl, nd, cls, z⟩ := h
    obtain ⟨kw, hw, pw⟩ := hW.ex
    have hu := hu_of hr
    have hr1 := hr.mono (show 1 ≤ 2 by decide)
    have kwl : kw.length = ws.length := Paired.length pw
    have atW : ∀ {i : Nat} {ky : List Key} {v : V}, kw[i]? = some (ky, v) → ∃ u, (ws.map fun w => w.stand)[i]? = some u ∧ ky = kst u := fun {i ky v} h => by
      obtain ⟨wy, hy, e1, _⟩ := paired_get pw h
      exact ⟨wy.stand, by rw [List.getElem?_map, hy]; rfl, e1⟩
    have Wl : (ws.map fun w => w.stand).length = ws.length := List.length_map _
    generalize (ws.map fun w => w.stand) = W at *
    refine ⟨_, pss_cons (ps_set (i := 2) scAhead.nd rfl (Or.inl rfl) pe_dnewT)
      (pss_cons (ps_lock (ps_for PassesOwn.never rfl (pi_keys (pv 1)) (pg_name (i := 3) scAhead.nd rfl (Or.inl rfl)) (pss_one (ps_dput hu (pv 2) (pv 3) (pe_lst pa_nil) rfl))))
      (pss_cons (ps_lock (ps_for PassesOwn.never rfl (pi_keys (pv 1)) (pg_name (i := 3) scAhead.nd rfl (Or.inl rfl))
        (pss_one (ps_for PassesOwn.never rfl (pi_list (pe_call GM hr rfl DM.m DM.fn.kp DM.b .nil pass0 (pa_cons (pv 0) (pa_cons (pv 3) pa_nil)))) (pg_name (i := 4) scAhead.nd rfl (Or.inl rfl))
          (pss_cons (ps_set (i := 5) scAhead.nd rfl (Or.inl rfl) (pe_call GB hr1 rfl DB.m DB.fn.kp DB.b .nil pass0 (pa_cons (pv 3) (pa_cons (pv 4) (pa_cons (pe_dget hu (pv 0) (pv 4) (fun _ _ => rfl)) pa_nil)))))
          (pss_one (ps_expr (pe_bm PySem.F.plainAttrs_list PySem.F.slot_list_append PySem.F.type_list_append mt_append (pe_dget hu (pv 2) (pv 5) (fun _ _ => rfl)) (pa_cons (pv 3) pa_nil)))))))))
      (pss_one (ps_ret (pv 2))))), ?_⟩
    intro e he
    have nwe : w0 ≠ e := ne_of_none hw he
    have s0 : Same H (upd H e (.dT [])) := Same.new he
    refine ⟨w0, .dT kw, s0 _ _ hw, trivial, fun od => ?_⟩
    refine ⟨_, rfl, w0, od, rfl, .inr ⟨kw, upd_same, ?_⟩⟩
    refine for_keysT (fun i σ H' => ∃ (v3 : Option V) (A : List Nat → Addr), σ = [some (.ref d), some (.ref w0), some (.ref e), v3, none, none] ∧ H' w0 = some (.frz od (.dT kw)) ∧ (∀ b o, H b = some o → b ≠ w0 → H' b = some o) ∧
        H' e = some (.dT (ahK A (W.take i))) ∧ (∀ u ∈ W.take i, H' (A u) = some (.lst [])) ∧ (∀ u ∈ W.take i, H (A u) = none) ∧ (∀ u ∈ W.take i, ∀ v ∈ W.take i, A u = A v → u = v))
      ⟨none, fun _ => 0, rfl, upd_same, fun b o h n => by rw [upd_ne n]; exact s0 _ _ h, by rw [upd_ne (Ne.symm nwe), upd_same]; rfl, (fun u h => by cases h), (fun u h => by cases h), (fun u h => by cases h)⟩ (fun i σ H' _ ⟨_, _, _, q, _⟩ => q) ?_ ?_
    · rintro i ky v q σ H' hi hq ⟨v3, A, rfl, fw, kp, hE, hA, hN, inj⟩
      obtain ⟨u, hui, rfl⟩ := atW hi
      have hnot : u ∉ W.take i := nth_not_before nd hui
      refine ⟨Nat.zero_le _, fun l hl => ?_⟩
      have sl : Same H' (upd H' l (.lst [])) := Same.new hl
      refine ⟨_, rfl, _, rfl, e, _, rfl, DPut.t (k := kst u) (sl _ _ hE) (sl _ _ hq) ?_, ?_⟩
      · unfold ahK
        rw [List.length_map, List.length_take, sizeLine_eq]; omega
      rw [putK_new _ (ahK_out hnot)]
      have nle : l ≠ e := fun z => by rw [z, hE] at hl; cases hl
      have hHl : H l = none := by
        cases q : H l with
        | none => rfl
        | some o =>
          by_cases n : l = w0
          · rw [n, fw] at hl; cases hl
          · rw [kp l o q n] at hl; cases hl
      have hA' : ∀ x ∈ W.take i, (if x = u then l else A x) = A x := fun x hx => if_neg fun z : x = u => hnot (z ▸ hx)
      refine ⟨_, fun x => if x = u then l else A x, rfl, ?_, ?_, ?_, ?_, ?_, ?_⟩
      · rw [upd_ne nwe]; exact sl _ _ fw
      · intro b o h n
        rw [upd_ne (ne_of_none h he)]; exact sl _ _ (kp b o h n)
      · rw [upd_same]
        unfold ahK
        rw [List.take_add_one, hui, List.map_append]
        congr 2
        congr 1
        · exact List.map_congr_left fun x hx => by
            show (kst x, V.ref (A x)) = (kst x, V.ref (if x = u then l else A x))
            rw [hA' x hx]
        · show _ = [(kst u, V.ref (if u = u then l else A u))]
          rw [if_pos rfl]
      · intro x hx
        rcases (take_succ_in hui).mp hx with hx | rfl
        · show upd (upd H' l (.lst [])) e _ (if x = u then l else A x) = _
          rw [hA' x hx, upd_ne (fun z => by have := hA x hx; rw [z, hE] at this; cases this)]
          exact sl _ _ (hA x hx)
        · show upd (upd H' l (.lst [])) e _ (if x = x then l else A x) = _
          rw [if_pos rfl, upd_ne nle, upd_same]
      · intro x hx
        rcases (take_succ_in hui).mp hx with hx | rfl
        · show H (if x = u then l else A x) = none
          rw [hA' x hx]; exact hN x hx
        · show H (if x = x then l else A x) = none
          rw [if_pos rfl]; exact hHl
      · intro x hx y hy exy
        have exy : (if x = u then l else A x) = (if y = u then l else A y) := exy
        rcases (take_succ_in hui).mp hx with hx | rfl
        · rcases (take_succ_in hui).mp hy with hy | rfl
          · rw [hA' x hx, hA' y hy] at exy
            exact inj x hx y hy exy
          · rw [hA' x hx, if_pos rfl] at exy
            have := hA x hx
            rw [exy, hl] at this; cases this
        · rcases (take_succ_in hui).mp hy with hy | rfl
          · rw [hA' y hy, if_pos rfl] at exy
            have := hA y hy
            rw [← exy, hl] at this; cases this
          · rfl
    · rintro σ H1 ⟨v3, A, rfl, fw, kp, hE, hA, hN, inj⟩
      refine ⟨fw, ?_⟩
      have tl : W.take kw.length = W := by rw [kwl, ← Wl, List.take_length]
      rw [tl] at hE hA hN inj
      have s1 : Same H (upd H1 w0 (.dT kw)) := fun b o h => by
        by_cases n : b = w0
        · subst n; rw [upd_same, ← h, hw]
        · rw [upd_ne n]; exact kp b o h n
      have W1 : (upd H1 w0 (.dT kw)) w0 = some (.dT kw) := upd_same
      have E1 : (upd H1 w0 (.dT kw)) e = some (.dT (ahK A W)) := by rw [upd_ne (Ne.symm nwe)]; exact hE
      have A1 : ∀ u ∈ W, (upd H1 w0 (.dT kw)) (A u) = some (.lst []) := fun u hu => by
        rw [upd_ne (fun z => by have := hA u hu; rw [z, fw] at this; cases this)]; exact hA u hu
      generalize upd H1 w0 (.dT kw) = H2 at *
      refine ⟨w0, .dT kw, W1, trivial, fun od2 => ?_⟩
      refine ⟨_, rfl, w0, od2, rfl, .inr ⟨kw, upd_same, ?_⟩⟩
      have nA : ∀ u ∈ W, A u ≠ w0 := fun u hu z => by have := A1 u hu; rw [z, W1] at this; cases this
      refine for_keysT (fun i σ H' => ∃ (v3 v4 v5 : Option V), σ = [some (.ref d), some (.ref w0), some (.ref e), v3, v4, v5] ∧ H' w0 = some (.frz od2 (.dT kw)) ∧ (∀ b o, H b = some o → b ≠ w0 → H' b = some o) ∧ H' e = some (.dT (ahK A W)) ∧ AhAt H' A W (Ch.edges rs (W.take i)))
        ⟨v3, none, none, rfl, upd_same, fun b o h n => by rw [upd_ne n]; exact s1 _ _ h, by rw [upd_ne (Ne.symm nwe)]; exact E1, fun u hu => ⟨[], by rw [upd_ne (nA u hu)]; exact A1 u hu, .nil⟩⟩ (fun i σ H' _ ⟨_, _, _, _, q, _⟩ => q) ?_ ?_
      · rintro i ky v q σ H3 hi hq ⟨v3, v4, v5, rfl, fw3, kp3, E3, A3⟩
        obtain ⟨u, hui, rfl⟩ := atW hi
        have hq := k_tup hq
        have huW := List.mem_of_getElem? hui
        obtain ⟨std, cl⟩ := cls u huW
        have R3 : RulesAt H3 d rs := by
          obtain ⟨kvs, h1, h2⟩ := hR.ex
          exact ⟨kvs, kp3 _ _ h1 ndw, Paired.mapP h2 fun kv r ⟨e1, q, e2, e3⟩ => ⟨e1, q, e2, kp3 _ _ e3 (ne_of e3 hw (by intro q; cases q))⟩⟩
        refine ⟨_, rfl, _, rfl, d, q, rs, u, k, rfl, R3, hq, std.len, k2, ok.k4, keys, fun H4 l ts hl s4 hL tL => ⟨l, rfl, ⟨_, SqL.of hL⟩, ?_⟩⟩
        have nlA : ∀ x ∈ W, A x ≠ l := fun x hx z => by
          obtain ⟨ts, h, _⟩ := A3 x hx
          rw [z, hl] at h; cases h
        have A4 : AhAt H4 A W (Ch.edges rs (W.take i)) := fun x hx => by
          obtain ⟨ts, h1, h2⟩ := A3 x hx
          exact ⟨ts, s4 _ _ h1, h2.same s4.t⟩
        refine for_list (K := K) (a := l) (xs := ts.map V.ref) (fun j σ H' => ∃ (v4 v5 : Option V), σ = [some (.ref d), some (.ref w0), some (.ref e), some (.ref q), v4, v5] ∧ (∀ b o, H4 b = some o → (∀ x ∈ W, A x ≠ b) → H' b = some o) ∧ AhAt H' A W (Ch.edges rs (W.take i) ++ (((Uw78.may rs u).take j).map fun r => (u, Uw78.behind u r))))
          ⟨v4, v5, rfl, fun b o h _ => h, by rw [List.take_zero, List.map_nil, List.append_nil]; exact A4⟩ (fun j σ H' _ ⟨_, _, _, kp, _⟩ => SqL.of (kp _ _ hL nlA)) ?_ ?_
        · rintro j x σ H5 hj ⟨v4, v5, rfl, kp5, A5⟩
          rw [List.getElem?_map] at hj
          cases etp : ts[j]? with
          | none => rw [etp] at hj; cases hj
          | some tp =>
            rw [etp] at hj
            cases hj
            obtain ⟨pk, hpk, htp⟩ := tL.get etp
            rw [List.getElem?_map] at hpk
            cases er : (Uw78.may rs u)[j]? with
            | none => rw [er] at hpk; cases hpk
            | some r =>
              rw [er] at hpk
              cases hpk
              have hrm := List.mem_of_getElem? er
              obtain ⟨r1, r2, r3⟩ := Ch.mem_may hrm
              obtain ⟨la, lb, lc, ld⟩ := ok.lt r r1
              have hul := std.len
              have noA : ∀ {b : Addr} {o : HO}, H4 b = some o → (∀ xs, o ≠ .lst xs) → ∀ x ∈ W, A x ≠ b := fun {b o} h n x hx z => by
                obtain ⟨ts, h1, _⟩ := A4 x hx
                rw [z, h] at h1
                cases h1
                exact n _ rfl
              have t5 : SameT H4 H5 := fun b xs h => kp5 _ _ h (noA h (by intro _ q; cases q))
              have R5 : RulesAt H5 d rs := by
                obtain ⟨kvs, h1, h2⟩ := (R3.move s4.t (fun kvs e => s4 _ _ e)).ex
                exact ⟨kvs, kp5 _ _ h1 (noA h1 (by intro _ q; cases q)), Paired.mapP h2 fun kv r ⟨e1, q, e2, e3⟩ => ⟨e1, q, e2, t5 _ _ e3⟩⟩
              obtain ⟨kvr, dr, pr⟩ := R5.ex
              obtain ⟨qc, hv, hqc⟩ := kv_some pr (by rw [keys]; exact Ch.twos_nodup k2 ok.k4) r1
              have htp5 := t5 _ _ htp
              have g : DGet H5 d (.ref tp) (some (.ref qc)) := by
                rw [← hv]; exact DGet.t (k := kk r.a r.b) dr htp5
              have hq5 := t5 _ _ (s4 _ _ hq)
              have E5 : H5 e = some (.dT (ahK A W)) := kp5 _ _ (s4 _ _ E3) (noA (s4 _ _ E3) (by intro _ q; cases q))
              refine ⟨_, rfl, _, rfl, _, rfl, _, rfl, d, _, rfl, g, q, tp, qc, u, r, rfl, hq5, htp5, hqc, by omega, by omega, by omega, by omega, r3, fun H6 b hb s6 h6 => ?_⟩
              have hbW := cl r hrm
              have g2 : DGet H6 e (.ref b) (some (.ref (A (Uw78.behind u r)))) := by
                rw [← ahK_in hbW]; exact DGet.t (k := kst (Uw78.behind u r)) (s6 _ _ E5) (tup_k h6)
              obtain ⟨tb, hb1, hb2⟩ := A5 _ hbW
              have tbl : tb.length ≤ 1300 := by
                have h1 := Paired.length hb2
                have h2 := List.length_filter_le (fun p : List Nat × List Nat => p.2 == Uw78.behind u r) (Ch.edges rs (W.take i) ++ (((Uw78.may rs u).take j).map fun r => (u, Uw78.behind u r)))
                have h3 := Ch.edges_len rl (W.take i)
                have h4 : (Uw78.may rs u).length ≤ rs.length := List.length_filter_le _ _
                rw [List.length_map] at h1
                rw [List.length_append, List.length_map, List.length_take] at h2
                rw [List.length_take] at h3
                omega
              refine ⟨_, rfl, _, rfl, e, _, rfl, g2, .inl ⟨rfl, _, SqL.of (s6 _ _ hb1)⟩, _, rfl, A (Uw78.behind u r), _, _, rfl, rfl, s6 _ _ hb1, (by rw [List.length_map, sizeLine_eq]; omega), ?_⟩
              have t7 : SameT H6 (upd H6 (A (Uw78.behind u r)) (.lst (tb.map V.ref ++ [.ref q]))) := fun c xs h => by
                rw [upd_ne (ne_of h (s6 _ _ hb1) (by intro q; cases q))]; exact h
              refine ⟨_, _, rfl, fun c o h nc => ?_, ?_⟩
              · rw [upd_ne (fun z => nc _ hbW z.symm)]; exact s6 _ _ (kp5 _ _ h nc)
              · intro x hx
                have ex : (((Uw78.may rs u).take (j + 1)).map fun r => (u, Uw78.behind u r)) = (((Uw78.may rs u).take j).map fun r => (u, Uw78.behind u r)) ++ [(u, Uw78.behind u r)] := by
                  rw [List.take_add_one, er, List.map_append]; rfl
                rw [ex, ← List.append_assoc]
                by_cases n : x = Uw78.behind u r
                · subst n
                  refine ⟨tb ++ [q], by rw [upd_same, List.map_append]; rfl, ?_⟩
                  rw [List.filter_append, List.map_append]
                  have e1 : ([(u, Uw78.behind u r)].filter fun p : List Nat × List Nat => p.2 == Uw78.behind u r) = [(u, Uw78.behind u r)] := by
                    rw [List.filter_cons, beq_self_eq_true]; rfl
                  rw [e1]
                  exact Paired.snoc ((hb2.same s6.t).same t7) (t7 _ _ (s6 _ _ hq5))
                · obtain ⟨tx, hx1, hx2⟩ := A5 x hx
                  have nA2 : A x ≠ A (Uw78.behind u r) := fun z => n (inj _ hx _ hbW z)
                  refine ⟨tx, by rw [upd_ne nA2]; exact s6 _ _ hx1, ?_⟩
                  rw [List.filter_append]
                  have e1 : ([(u, Uw78.behind u r)].filter fun p : List Nat × List Nat => p.2 == x) = [] := by
                    have e9 : (((u, Uw78.behind u r) : List Nat × List Nat).2 == x) = false := beq_eq_false_iff_ne.mpr (fun z => n z.symm)
                    rw [List.filter_cons, e9]; rfl
                  rw [e1, List.append_nil]
                  exact (hx2.same s6.t).same t7
        · rintro σ H5 ⟨v4, v5, rfl, kp5, A5⟩
          have el : (ts.map V.ref).length = (Uw78.may rs u).length := by rw [List.length_map, Paired.length tL, List.length_map]
          rw [el, List.take_length, ← Ch.edges_take hui] at A5
          have noA : ∀ {b : Addr} {o : HO}, H4 b = some o → (∀ xs, o ≠ .lst xs) → ∀ x ∈ W, A x ≠ b := fun {b o} h n x hx z => by
            obtain ⟨ts, h1, _⟩ := A4 x hx
            rw [z, h] at h1
            cases h1
            exact n _ rfl
          refine ⟨_, _, _, rfl, kp5 _ _ (s4 _ _ fw3) (noA (s4 _ _ fw3) (by intro _ q; cases q)), fun b o h n => kp5 _ _ (s4 _ _ (kp3 b o h n)) (fun x hx z => ?_), kp5 _ _ (s4 _ _ E3) (noA (s4 _ _ E3) (by intro _ q; cases q)), A5⟩
          have := hN x hx
          rw [z, h] at this; cases this
      · rintro σ H3 ⟨v3, v4, v5, rfl, fw3, kp3, E3, A3⟩
        refine ⟨fw3, ?_⟩
        rw [tl] at A3
        refine ⟨_, rfl, ?_⟩
        have st : SameT H3 (upd H3 w0 (.dT kw)) := fun b xs h => by
          rw [upd_ne (ne_of h fw3 (by intro q; cases q))]; exact h
        refine z _ e A he (fun b o h => ?_) (by rw [upd_ne (Ne.symm nwe)]; exact E3) (fun x hx => ?_)
        · by_cases n : b = w0
          · subst n; rw [upd_same, ← h, hw]
          · rw [upd_ne n]; exact kp3 b o h n
        · obtain ⟨ts, h1, h2⟩ := A3 x hx
          exact ⟨ts, by rw [upd_ne (nA x hx)]; exact h1, h2.same st⟩
end
end Isl

end

section
set_option Elab.async false
set_option linter.all false
set_option maxRecDepth 100000
set_option maxHeartbeats 4000000
namespace Isl
open PySem PySem.Spec PyProof.Rows L2
def fdK (L : List (List Nat)) : List (List Key × V) := L.map fun u => (kst u, V.bl true)
theorem fdK_some {u : List Nat} : ∀ {L : List (List Nat)}, u ∈ L → (valV (fdK L) (kst u)).isSome = true
  | v :: L, h => by
    by_cases e : v = u
    · subst e
      show (valV ((kst v, V.bl true) :: fdK L) (kst v)).isSome = true
      rw [valV_pos (p := (kst v, V.bl true)) rfl]; rfl
    · have n : ¬ ((kst v, V.bl true) : List Key × V).1 = kst u := fun z => e (kst_inj z)
      show (valV ((kst v, V.bl true) :: fdK L) (kst u)).isSome = true
      rw [valV_neg n]
      rcases List.mem_cons.mp h with rfl | h
      · exact absurd rfl e
      · exact fdK_some h
theorem fdK_none {u : List Nat} : ∀ {L : List (List Nat)}, u ∉ L → valV (fdK L) (kst u) = none
  | [], _ => rfl
  | v :: L, h => by
    have n : ¬ ((kst v, V.bl true) : List Key × V).1 = kst u := fun z => h (by rw [kst_inj z]; exact List.mem_cons_self)
    show valV ((kst v, V.bl true) :: fdK L) (kst u) = none
    rw [valV_neg n]
    exact fdK_none fun q => h (List.mem_cons_of_mem _ q)
/-- what has been found on the way back from st -/
structure Bk (W : List (List Nat)) (E : List (List Nat × List Nat)) (st : List Nat) (L : List (List Nat)) : Prop where
  nd : L.Nodup
  has : st ∈ L
  sub : ∀ u ∈ L, u ∈ W
  pr : ∀ Pr : List Nat → Prop, Pr st → (∀ u v, (u, v) ∈ E → Pr v → Pr u) → ∀ u ∈ L, Pr u
theorem Bk.len {W : List (List Nat)} {E : List (List Nat × List Nat)} {st : List Nat} {L : List (List Nat)} (h : Bk W E st L) : L.length ≤ W.length := Ch.nodup_len h.nd h.sub
theorem Bk.more {W : List (List Nat)} {E : List (List Nat × List Nat)} {st u v : List Nat} {L : List (List Nat)} (h : Bk W E st L) (hu : u ∉ L) (hv : v ∈ L) (e : (u, v) ∈ E) (hw : u ∈ W) : Bk W E st (L ++ [u]) where
  nd := by
    rw [List.nodup_append]
    refine ⟨h.nd, by simp, fun a ha b hb => ?_⟩
    rw [List.mem_singleton.mp hb]
    exact fun z => hu (z ▸ ha)
  has := List.mem_append_left _ h.has
  sub := fun x hx => by
    rcases List.mem_append.mp hx with hx | hx
    · exact h.sub x hx
    · rw [List.mem_singleton.mp hx]; exact hw
  pr := fun Pr p0 ps x hx => by
    rcases List.mem_append.mp hx with hx | hx
    · exact h.pr Pr p0 ps x hx
    · rw [List.mem_singleton.mp hx]; exact ps u v e (h.pr Pr p0 ps v hv)
def spLead : Sp := fun vs H Q _ => ∃ (a t : Addr) (A : List Nat → Addr) (W : List (List Nat)) (E : List (List Nat × List Nat)) (st : List Nat), vs = [.ref a, .ref t] ∧ H a = some (.dT (ahK A W)) ∧ AhAt H A W E ∧ H t = some (.tup (lv st)) ∧ st ∈ W ∧ (∀ u v, (u, v) ∈ E → u ∈ W) ∧ W.length ≤ 120 ∧
  ∀ (H' : Hp) (l : Addr) (ts : List Addr) (L : List (List Nat)), H l = none → Same H H' → H' l = some (.lst (ts.map V.ref)) → StdsAt H' ts L → Bk W E st L → (∀ v ∈ L, ∀ u, (u, v) ∈ E → u ∈ L) → Q (.ref l) H'
section
variable {P : Program} {w : World} {K : PySem.W.Frag} {mg : Str → Option Value} {base : Heap}
theorem scLead : FnScope ["ahead", "wanted", "leading", "found", "at", "now", "stand"] ["ahead", "wanted"] (defScope sLead) := ⟨rfl, rfl, rfl, by decide +kernel, rfl, by decide +kernel, by decide +kernel⟩
theorem ok_lead {f : Addr} {fd : FuncData} (F : Fun K "stands_leading_to" "stands_leading_to" sLead f fd) (B : Blt mg) : FnOk P w K mg base CX0 1 f fd ["ahead", "wanted"] spLead := by
  refine F.ok scLead (fun vs H Q E h => ?_) (fun cdv A outer s H vs Q E hr h => ?_)
  · obtain ⟨_, _, _, _, _, _, rfl, _⟩ := h
    rfl
  · obtain ⟨a, t, A, W, E, st, rfl, ha, hA, ht, hst, hEW, wl, z⟩ := h
    have hu := hu_of hr
    refine ⟨_, pss_cons (ps_set (i := 2) scLead.nd rfl (Or.inl rfl) (pe_lst (pa_cons (pv 1) pa_nil)))
      (pss_cons (ps_set (i := 3) scLead.nd rfl (Or.inl rfl) (pe_disp1 (Nat.lt_of_succ_lt hu) (pv 1) pe_bl))
      (pss_cons (ps_set (i := 4) scLead.nd rfl (Or.inl rfl) pe_int)
      (pss_cons (ps_while PassesOwn.never (pt_cmpR op_lt (pv 4) (pe_callB call_len_seq (by rfl) B.len PySem.boot_len (pa_cons (pv 2) pa_nil)) (nomark _))
        (pss_cons (ps_set (i := 5) scLead.nd rfl (Or.inl rfl) (pe_ix ix_list (pv 2) (pv 4) (fun _ _ => rfl)))
        (pss_cons (ps_for PassesOwn.never rfl (pi_list (pe_dget hu (pv 0) (pv 5) (fun _ _ => rfl))) (pg_name (i := 6) scLead.nd rfl (Or.inl rfl))
          (pss_one (ps_if (pt_cmp (pc_dnotin hu (pv 6) (pv 3)))
            (pss_cons (ps_dput hu (pv 3) (pv 6) pe_bl rfl)
            (pss_one (ps_expr (pe_bm PySem.F.plainAttrs_list PySem.F.slot_list_append PySem.F.type_list_append mt_append (pv 2) (pa_cons (pv 6) pa_nil)))))
            pss_nil)))
        (pss_one (ps_aug (i := 4) scLead.nd rfl (Or.inl rfl) pe_int ip_add)))))
      (pss_one (ps_ret (pv 2)))))), ?_⟩
    refine ⟨_, rfl, sl1, fun l hl => ?_⟩
    have s1 : Same H (upd H l (.lst [.ref t])) := Same.new hl
    have L1 : (upd H l (.lst [.ref t])) l = some (.lst [.ref t]) := upd_same
    generalize upd H l (.lst [.ref t]) = H1 at *
    intro g hg
    have s2 : Same H1 (upd H1 g (.dT [])) := Same.new hg
    refine ⟨_, rfl, kst st, t, upd_same, rfl, tup_k (s2 _ _ (s1 _ _ ht)), ?_⟩
    rw [upd_upd]
    have s3 : Same H1 (upd H1 g (.dT [(kst st, .bl true)])) := Same.new hg
    have G3 : (upd H1 g (.dT [(kst st, .bl true)])) g = some (.dT [(kst st, .bl true)]) := upd_same
    have hgH : H g = none := s1.free hg
    generalize upd H1 g (.dT [(kst st, .bl true)]) = H3 at *
    have nlg : l ≠ g := ne_of_none L1 hg
    refine ⟨fun m σ H' => ∃ (i : Nat) (v5 v6 : Option V) (ts : List Addr) (L : List (List Nat)), m = 121 - i ∧ i ≤ L.length ∧ σ = [some (.ref a), some (.ref t), some (.ref l), some (.ref g), some (iv i), v5, v6] ∧ Same H H' ∧ H' l = some (.lst (ts.map V.ref)) ∧ StdsAt H' ts L ∧ H' g = some (.dT (fdK L)) ∧
        Bk W E st L ∧ ∀ j v, j < i → L[j]? = some v → ∀ u, (u, v) ∈ E → u ∈ L,
      ⟨121, 0, none, none, [t], [st], rfl, Nat.zero_le _, rfl, s1.trans s3, s3 _ _ L1, .cons (s3 _ _ (s1 _ _ ht)) .nil, G3, ⟨by simp, List.mem_singleton.mpr rfl, fun u hu => by rw [List.mem_singleton.mp hu]; exact hst, fun Pr p0 _ u hu => by rw [List.mem_singleton.mp hu]; exact p0⟩, fun j v hj => absurd hj (Nat.not_lt_zero _)⟩, ?_⟩
    rintro m σ H' ⟨i, v5, v6, ts, L, rfl, hi, rfl, sH, hL, pL, hG, bk, hdone⟩
    have tl : ts.length = L.length := Paired.length pL
    have ll := bk.len
    refine ⟨_, rfl, _, rfl, l, _, rfl, .inl (SqL.of hL), _, _, rfl, rfl, _, rfl, ?_⟩
    rw [List.length_map, tl]
    by_cases hlt : i < L.length
    · rw [decide_eq_true (show ((i : Nat) : Int) < ((L.length : Nat) : Int) by omega)]
      refine iteT ⟨_, fun σ' H' h => h, ?_⟩
      have hv : L[i]? = some L[i] := List.getElem?_eq_getElem hlt
      generalize L[i] = v at hv
      obtain ⟨tn, htn, hTn⟩ := paired_at pL hv
      have hvL := List.mem_of_getElem? hv
      have hvW := bk.sub v hvL
      refine ⟨_, rfl, _, rfl, l, _, _, _, rfl, rfl, SqL.of hL, atI_nat (by rw [List.getElem?_map, htn]; rfl), ?_⟩
      have gA : DGet H' a (.ref tn) (some (.ref (A v))) := by
        rw [← ahK_in hvW]; exact DGet.t (k := kst v) (sH _ _ ha) (tup_k hTn)
      obtain ⟨tv, hq, pq⟩ := hA v hvW
      refine ⟨_, rfl, _, rfl, a, _, rfl, gA, A v, rfl, ⟨_, SqL.of (sH _ _ hq)⟩, ?_⟩
      have pin : ∀ {j u}, ((E.filter fun p => p.2 == v).map (·.1))[j]? = some u → (u, v) ∈ E := fun {j u} h => by
        obtain ⟨⟨x, y⟩, hp, rfl⟩ := List.mem_map.mp (List.mem_of_getElem? h)
        obtain ⟨h1, h2⟩ := List.mem_filter.mp hp
        have h3 : y = v := eq_of_beq h2
        rw [← h3]; exact h1
      refine for_list (K := K) (a := A v) (xs := tv.map V.ref) (fun j σ H' => ∃ (v6 : Option V) (ts : List Addr) (L2 : List (List Nat)), σ = [some (.ref a), some (.ref t), some (.ref l), some (.ref g), some (iv i), some (.ref tn), v6] ∧ Same H H' ∧ H' l = some (.lst (ts.map V.ref)) ∧ StdsAt H' ts L2 ∧ H' g = some (.dT (fdK L2)) ∧
          Bk W E st L2 ∧ (∃ m, L2 = L ++ m) ∧ ∀ j' u, j' < j → ((E.filter fun p => p.2 == v).map (·.1))[j']? = some u → u ∈ L2)
        ⟨v6, ts, L, rfl, sH, hL, pL, hG, bk, ⟨[], (List.append_nil _).symm⟩, fun j' u h => absurd h (Nat.not_lt_zero _)⟩ (fun j σ H' _ ⟨_, _, _, _, s4, _⟩ => SqL.of (s4 _ _ hq)) ?_ ?_
      · rintro j x σ H4 hj ⟨v6, ts4, L4, rfl, s4, hL4, pL4, hG4, bk4, ⟨m4, em4⟩, hd4⟩
        rw [List.getElem?_map] at hj
        cases etx : tv[j]? with
        | none => rw [etx] at hj; cases hj
        | some tx =>
          rw [etx] at hj
          cases hj
          obtain ⟨u, hu1, hu2⟩ := pq.get etx
          have hu4 := s4 _ _ hu2
          have huE := pin hu1
          have huW := hEW _ _ huE
          have hvL4 : v ∈ L4 := by rw [em4]; exact List.mem_append_left _ hvL
          have ll4 := bk4.len
          refine ⟨_, rfl, _, rfl, g, _, rfl, DGet.t (k := kst u) hG4 (tup_k hu4), _, rfl, ?_⟩
          by_cases hin : u ∈ L4
          · rw [fdK_some hin]
            refine iteF ?_
            refine ⟨some (.ref tx), ts4, L4, rfl, s4, hL4, pL4, hG4, bk4, ⟨m4, em4⟩, fun j' y hj' hy => ?_⟩
            by_cases e : j' = j
            · subst e; rw [hu1] at hy; cases hy; exact hin
            · exact hd4 j' y (by omega) hy
          · rw [fdK_none hin]
            refine iteT ?_
            have fl : (fdK L4).length < sizeLine := by
              show (L4.map _).length < sizeLine
              rw [List.length_map, sizeLine_eq]; omega
            refine ⟨_, rfl, _, rfl, g, _, rfl, DPut.t (k := kst u) hG4 (tup_k hu4) fl, ?_⟩
            rw [putK_new _ (fdK_none hin)]
            have t5 : SameT H4 (upd H4 g (.dT (fdK L4 ++ [(kst u, .bl true)]))) := fun b xs h => by
              rw [upd_ne (ne_of h hG4 (by intro q; cases q))]; exact h
            have L5 : (upd H4 g (.dT (fdK L4 ++ [(kst u, .bl true)]))) l = some (.lst (ts4.map V.ref)) := by rw [upd_ne nlg]; exact hL4
            have G5 : (upd H4 g (.dT (fdK L4 ++ [(kst u, .bl true)]))) g = some (.dT (fdK L4 ++ [(kst u, .bl true)])) := upd_same
            have s5 : Same H (upd H4 g (.dT (fdK L4 ++ [(kst u, .bl true)]))) := s4.put hgH
            generalize upd H4 g (.dT (fdK L4 ++ [(kst u, .bl true)])) = H5 at *
            have tl4 : ts4.length = L4.length := Paired.length pL4
            refine ⟨_, rfl, .inl ⟨rfl, _, SqL.of L5⟩, _, rfl, l, _, _, rfl, rfl, L5, (by rw [List.length_map, sizeLine_eq]; omega), ?_⟩
            have t6 : SameT H5 (upd H5 l (.lst (ts4.map V.ref ++ [.ref tx]))) := fun b xs h => by
              rw [upd_ne (ne_of h L5 (by intro q; cases q))]; exact h
            refine ⟨some (.ref tx), ts4 ++ [tx], L4 ++ [u], rfl, s5.put hl, ?_, ?_, ?_, bk4.more hin hvL4 huE huW, ⟨m4 ++ [u], by rw [em4, List.append_assoc]⟩, fun j' y hj' hy => ?_⟩
            · rw [upd_same, List.map_append]; rfl
            · exact Paired.snoc ((pL4.same t5).same t6) (t6 _ _ (t5 _ _ hu4))
            · rw [upd_ne (Ne.symm nlg), G5]
              unfold fdK
              rw [List.map_append]; rfl
            · by_cases e : j' = j
              · subst e; rw [hu1] at hy; cases hy; exact List.mem_append_right _ (List.mem_singleton.mpr rfl)
              · exact List.mem_append_left _ (hd4 j' y (by omega) hy)
      · rintro σ H4 ⟨v6, ts4, L4, rfl, s4, hL4, pL4, hG4, bk4, ⟨m4, em4⟩, hd4⟩
        have pl : tv.length = ((E.filter fun p => p.2 == v).map (·.1)).length := Paired.length pq
        rw [List.length_map, pl] at hd4
        have ll4 := bk4.len
        have l4 : L.length ≤ L4.length := by rw [em4, List.length_append]; omega
        refine ⟨_, rfl, _, _, rfl, rfl, 121 - (i + 1), by omega, i + 1, some (.ref tn), v6, ts4, L4, rfl, by omega, rfl, s4, hL4, pL4, hG4, bk4, fun j y hj hy u huE => ?_⟩
        by_cases e : j = i
        · subst e
          rw [em4, List.getElem?_append_left hlt, hv] at hy
          cases hy
          have hm : u ∈ (E.filter fun p => p.2 == v).map (·.1) := List.mem_map.mpr ⟨(u, v), List.mem_filter.mpr ⟨huE, beq_self_eq_true v⟩, rfl⟩
          obtain ⟨j', hj', ej⟩ := List.mem_iff_getElem.mp hm
          exact hd4 j' u hj' (List.getElem?_eq_some_iff.mpr ⟨hj', ej⟩)
        · rw [em4, List.getElem?_append_left (by omega)] at hy
          rw [em4]
          exact List.mem_append_left _ (hdone j y (by omega) hy u huE)
    · rw [decide_eq_false (show ¬ ((i : Nat) : Int) < ((L.length : Nat) : Int) by omega)]
      refine iteF ?_
      refine ⟨_, rfl, ?_⟩
      refine z _ l ts L hl sH hL pL bk fun v hv u huE => ?_
      obtain ⟨j, hj, ej⟩ := List.mem_iff_getElem.mp hv
      exact hdone j v (by omega) (List.getElem?_eq_some_iff.mpr ⟨hj, ej⟩) u huE
end
end Isl

end

section
set_option Elab.async false
set_option linter.all false
set_option maxRecDepth 100000
set_option maxHeartbeats 4000000
namespace Isl
open PySem PySem.Spec PyProof.Rows L2
def ext (m : Nat) (r : List Nat) : List (List Nat) := (List.range m).map fun x => r ++ [x]
theorem ext_len (m : Nat) : ∀ l : List (List Nat), (l.flatMap (ext m)).length = l.length * m
  | [] => by simp
  | a :: l => by
    rw [List.flatMap_cons, List.length_append, ext_len m l, List.length_cons, Nat.succ_mul]
    show ((List.range m).map _).length + _ = _
    rw [List.length_map, List.length_range, Nat.add_comm]
theorem lv_append (a b : List Nat) : lv (a ++ b) = lv a ++ lv b := List.map_append
def spRows : Sp := fun vs H Q _ => ∃ k m : Nat, vs = [iv k, iv m] ∧ k ≤ 4 ∧ m ≤ 9 ∧ ∀ (H' : Hp) (l : Addr) (ts : List Addr), H l = none → Same H H' → H' l = some (.lst (ts.map V.ref)) → StdsAt H' ts (Uw78.rows m k) → Q (.ref l) H'
def spKeptR : Sp := fun vs H Q _ => ∃ (d t : Addr) (rs : List Uw78.Rule) (wt : List Nat) (m : Nat), vs = [.ref d, .ref t, iv m] ∧ RulesAt H d rs ∧ H t = some (.tup (lv wt)) ∧ (∀ r ∈ rs, r.a < wt.length ∧ r.b < wt.length ∧ r.c < wt.length ∧ r.d < wt.length) ∧ 0 < m ∧
  ∀ H' : Hp, Same H H' → Q (.bl (Uw78.isKept rs m wt)) H'
section
variable {P : Program} {w : World} {K : PySem.W.Frag} {mg : Str → Option Value} {base : Heap}
theorem scRows : FnScope ["colours", "m", "rows", "place", "longer", "row", "weight"] ["colours", "m"] (defScope sRows) := ⟨rfl, rfl, rfl, by decide +kernel, rfl, by decide +kernel, by decide +kernel⟩
theorem ok_rows {f : Addr} {fd : FuncData} (F : Fun K "rows_of_weights" "rows_of_weights" sRows f fd) (B : Blt mg) : FnOk P w K mg base CX0 1 f fd ["colours", "m"] spRows := by
  refine F.ok scRows (fun vs H Q E h => ?_) (fun cdv A outer s H vs Q E hr h => ?_)
  · obtain ⟨_, _, rfl, _⟩ := h
    rfl
  · obtain ⟨k, m, rfl, k4, m9, z⟩ := h
    refine ⟨_, pss_cons (ps_set (i := 2) scRows.nd rfl (Or.inl rfl) (pe_lst (pa_cons (pe_tup pa_nil) pa_nil)))
      (pss_cons (ps_for PassesOwn.never rfl (pi_range1 rfl B.range (pa_cons (pv 0) pa_nil)) (pg_name (i := 3) scRows.nd rfl (Or.inl rfl))
        (pss_cons (ps_set (i := 4) scRows.nd rfl (Or.inl rfl) (pe_lst pa_nil))
        (pss_cons (ps_for PassesOwn.never rfl (pi_list (pv 2)) (pg_name (i := 5) scRows.nd rfl (Or.inl rfl))
          (pss_one (ps_for PassesOwn.never rfl (pi_range1 rfl B.range (pa_cons (pv 1) pa_nil)) (pg_name (i := 6) scRows.nd rfl (Or.inl rfl))
            (pss_one (ps_expr (pe_bm PySem.F.plainAttrs_list PySem.F.slot_list_append PySem.F.type_list_append mt_append (pv 4) (pa_cons (pe_op op_catU (pv 5) (pe_tup (pa_cons (pv 6) pa_nil))) pa_nil)))))))
        (pss_one (ps_set (i := 2) scRows.nd rfl (Or.inl rfl) (pv 4))))))
      (pss_one (ps_ret (pv 2)))), ?_⟩
    refine ⟨Nat.zero_le _, fun t0 ht0 => ⟨sl1, fun l0 hl0 => ?_⟩⟩
    have s0 : Same H (upd (upd H t0 (.tup [])) l0 (.lst [.ref t0])) := (Same.new ht0).trans (Same.new hl0)
    have T0 : (upd (upd H t0 (.tup [])) l0 (.lst [.ref t0])) t0 = some (.tup []) := by
      rw [upd_ne (ne_of_none (upd_same (H := H) (a := t0) (o := .tup [])) hl0), upd_same]
    have L0 : (upd (upd H t0 (.tup [])) l0 (.lst [.ref t0])) l0 = some (.lst [.ref t0]) := upd_same
    have n0 : H l0 = none := (Same.new ht0).free hl0
    generalize (upd (upd H t0 (.tup [])) l0 (.lst [.ref t0])) = H0 at *
    refine ⟨_, rfl, (k : Int), rfl, by omega, by omega, for_range (lo := 0) (n := k) (fun i σ H' => ∃ (l : Addr) (ts : List Addr) (v3 v4 v5 v6 : Option V), σ = [some (iv k), some (iv m), some (.ref l), v3, v4, v5, v6] ∧ H l = none ∧ Same H H' ∧ H' l = some (.lst (ts.map V.ref)) ∧ StdsAt H' ts (Uw78.rows m i))
      ⟨l0, [t0], none, none, none, none, rfl, n0, s0, L0, .cons T0 .nil⟩ ?_ ?_⟩
    · rintro i σ H1 hi ⟨l, ts, v3, v4, v5, v6, rfl, nl, s1, h1, p1⟩
      have rl := Ch.rows_small (m := m) (n := i) m9 (by omega)
      refine ⟨Nat.zero_le _, fun l2 hl2 => ?_⟩
      have s2 : Same H1 (upd H1 l2 (.lst [])) := Same.new hl2
      have n2 : H l2 = none := s1.free hl2
      have nl2 : l ≠ l2 := ne_of_none h1 hl2
      have tl : ts.length = (Uw78.rows m i).length := Paired.length p1
      refine ⟨_, rfl, l, rfl, ⟨_, SqL.of (s2 _ _ h1)⟩, for_list (K := K) (a := l) (xs := ts.map V.ref) (fun j σ H' => ∃ (qs : List Addr) (v5 v6 : Option V), σ = [some (iv k), some (iv m), some (.ref l), some (.int (0 + (i : Int))), some (.ref l2), v5, v6] ∧ Same H H' ∧ H' l = some (.lst (ts.map V.ref)) ∧ StdsAt H' ts (Uw78.rows m i) ∧
          H' l2 = some (.lst (qs.map V.ref)) ∧ StdsAt H' qs (((Uw78.rows m i).take j).flatMap (ext m)))
        ⟨[], v5, v6, rfl, s1.trans s2, s2 _ _ h1, p1.same s2.t, upd_same, .nil⟩ (fun j σ H' _ ⟨_, _, _, _, _, q, _⟩ => SqL.of q) ?_ ?_⟩
      · rintro j x σ H3 hj ⟨qs, v5, v6, rfl, s3, h3, p3, q3, pq3⟩
        rw [List.getElem?_map] at hj
        cases et : ts[j]? with
        | none => rw [et] at hj; cases hj
        | some tr =>
          rw [et] at hj
          cases hj
          obtain ⟨r, hr1, htr⟩ := p3.get et
          refine ⟨_, rfl, (m : Int), rfl, by omega, by omega, for_range (lo := 0) (n := m) (fun y σ H' => ∃ (qs : List Addr) (v6 : Option V), σ = [some (iv k), some (iv m), some (.ref l), some (.int (0 + (i : Int))), some (.ref l2), some (.ref tr), v6] ∧ Same H H' ∧ H' l = some (.lst (ts.map V.ref)) ∧ StdsAt H' ts (Uw78.rows m i) ∧
              H' l2 = some (.lst (qs.map V.ref)) ∧ StdsAt H' qs (((Uw78.rows m i).take j).flatMap (ext m) ++ (List.range y).map fun x => r ++ [x]))
            ⟨qs, v6, rfl, s3, h3, p3, q3, by rw [List.range_zero, List.map_nil, List.append_nil]; exact pq3⟩ ?_ ?_⟩
          · rintro y σ H4 hy ⟨qs4, v6, rfl, s4, h4, p4, q4, pq4⟩
            obtain ⟨r', hr2, htr4⟩ := p4.get et
            rw [hr1] at hr2
            cases hr2
            have ql : qs4.length ≤ 60000 := by
              have e1 := Paired.length pq4
              rw [List.length_append, ext_len, List.length_take, List.length_map, List.length_range] at e1
              have e2 : min j (Uw78.rows m i).length * m ≤ 6561 * 9 := Nat.mul_le_mul (by omega) m9
              omega
            have rlen : r.length ≤ 4 := by
              have := (Ch.mem_rows (List.mem_of_getElem? hr1)).1
              omega
            have ey : V.int (0 + (y : Int)) = iv y := by rw [Int.zero_add]
            refine ⟨_, rfl, .inl ⟨rfl, _, SqL.of q4⟩, _, rfl, _, rfl, sl1, fun t1 ht1 => ?_⟩
            have s5 : Same H4 (upd H4 t1 (.tup [.int (0 + (y : Int))])) := Same.new ht1
            have T5 : (upd H4 t1 (.tup [.int (0 + (y : Int))])) t1 = some (.tup (lv [y])) := by rw [upd_same, ey]; rfl
            generalize upd H4 t1 (.tup [.int (0 + (y : Int))]) = H5 at *
            have fin : ∀ (H6 : Hp) (q : Addr), Same H5 H6 → H6 q = some (.tup (lv (r ++ [y]))) → rAppend (.ref l2) [.ref q] H6 fun _ H7 => ∃ (qs : List Addr) (v6 : Option V), [some (iv k), some (iv m), some (.ref l), some (.int (0 + (i : Int))), some (.ref l2), some (.ref tr), some (.int (0 + (y : Int)))] = [some (iv k), some (iv m), some (.ref l), some (V.int (0 + (i : Int))), some (.ref l2), some (.ref tr), v6] ∧ Same H H7 ∧ H7 l = some (.lst (ts.map V.ref)) ∧ StdsAt H7 ts (Uw78.rows m i) ∧
                H7 l2 = some (.lst (qs.map V.ref)) ∧ StdsAt H7 qs (((Uw78.rows m i).take j).flatMap (ext m) ++ (List.range (y + 1)).map fun x => r ++ [x]) := fun H6 q s6 hq => by
              have s46 := s5.trans s6
              refine ⟨l2, _, _, rfl, rfl, s46 _ _ q4, (by rw [List.length_map, sizeLine_eq]; omega), ?_⟩
              have t7 : SameT H6 (upd H6 l2 (.lst (qs4.map V.ref ++ [.ref q]))) := fun b xs h => by
                rw [upd_ne (ne_of h (s46 _ _ q4) (by intro q; cases q))]; exact h
              refine ⟨qs4 ++ [q], _, rfl, (s4.trans s46).put n2, (by rw [upd_ne nl2]; exact s46 _ _ h4), (p4.same s46.t).same t7, by rw [upd_same, List.map_append]; rfl, ?_⟩
              rw [List.range_succ, List.map_append, ← List.append_assoc]
              exact Paired.snoc ((pq4.same s46.t).same t7) (t7 _ _ hq)
            refine ⟨tr, t1, lv r, lv [y], rfl, rfl, SqT.of (s5 _ _ htr4), SqT.of T5, (fun z => nomatch z), (by rw [lv_len, sizeLine_eq]; show _ + 1 ≤ _; omega), fun er => ?_, fun _ p hp => ?_⟩
            · refine fin H5 t1 (Same.refl _) ?_
              rw [lv_append, er, List.nil_append]; exact T5
            · refine fin _ p (Same.new hp) ?_
              rw [lv_append]; exact upd_same
          · rintro σ H4 ⟨qs4, v6, rfl, s4, h4, p4, q4, pq4⟩
            refine ⟨qs4, _, _, rfl, s4, h4, p4, q4, ?_⟩
            rw [List.take_add_one, hr1, List.flatMap_append]
            show StdsAt H4 qs4 (_ ++ (ext m r ++ []))
            rw [List.append_nil]
            exact pq4
      · rintro σ H3 ⟨qs, v5, v6, rfl, s3, h3, p3, q3, pq3⟩
        refine ⟨_, rfl, ?_⟩
        refine ⟨l2, qs, _, _, _, _, rfl, n2, s3, q3, ?_⟩
        rw [List.length_map, tl, List.take_length] at pq3
        rw [Ch.rows_snoc]
        exact pq3
    · rintro σ H1 ⟨l, ts, v3, v4, v5, v6, rfl, nl, s1, h1, p1⟩
      refine ⟨_, rfl, ?_⟩
      exact z _ l ts nl s1 h1 p1
theorem scKeptR : FnScope ["becomes", "weights", "m", "pair", "changed", "before", "behind"] ["becomes", "weights", "m"] (defScope sKeptR) := ⟨rfl, rfl, rfl, by decide +kernel, rfl, by decide +kernel, by decide +kernel⟩
theorem ok_keptR {f : Addr} {fd : FuncData} (F : Fun K "are_kept" "are_kept" sKeptR f fd) : FnOk P w K mg base CX0 1 f fd ["becomes", "weights", "m"] spKeptR := by
  refine F.ok scKeptR (fun vs H Q E h => ?_) (fun cdv A outer s H vs Q E hr h => ?_)
  · obtain ⟨_, _, _, _, _, rfl, _⟩ := h
    rfl
  · obtain ⟨d, t, rs, wt, m, rfl, hR, ht, hlt, hm, z⟩ := h
    obtain ⟨kvs, hd, pr⟩ := hR.ex
    refine ⟨_, pss_cons (ps_lock (ps_for PassesOwn.never rfl (pi_itemsT (pv 0)) (pg_tup rfl (pgs_cons (pg_name (i := 3) scKeptR.nd rfl (Or.inl rfl)) (pgs_cons (pg_name (i := 4) scKeptR.nd rfl (Or.inl rfl)) pgs_nil)))
        (pss_cons (ps_set (i := 5) scKeptR.nd rfl (Or.inl rfl) (pe_op op_add (pe_ix ix_tup (pv 1) (pe_ix ix_tup (pv 3) pe_int (fun _ _ => rfl)) (fun _ _ => rfl)) (pe_ix ix_tup (pv 1) (pe_ix ix_tup (pv 3) pe_int (fun _ _ => rfl)) (fun _ _ => rfl))))
        (pss_cons (ps_set (i := 6) scKeptR.nd rfl (Or.inl rfl) (pe_op op_add (pe_ix ix_tup (pv 1) (pe_ix ix_tup (pv 4) pe_int (fun _ _ => rfl)) (fun _ _ => rfl)) (pe_ix ix_tup (pv 1) (pe_ix ix_tup (pv 4) pe_int (fun _ _ => rfl)) (fun _ _ => rfl))))
        (pss_one (ps_if (pt_cmpR op_ne (pe_op op_mod (pv 5) (pv 2)) (pe_op op_mod (pv 6) (pv 2)) (nomark _)) (pss_one (ps_ret pe_bl)) pss_nil))))))
      (pss_one (ps_ret pe_bl)), ?_⟩
    refine ⟨d, .dT kvs, hd, trivial, fun od => ?_⟩
    have back : ∀ H' : Hp, (∀ b o, H b = some o → b ≠ d → H' b = some o) → Same H (upd H' d (.dT kvs)) := fun H' kp b o e => by
      by_cases n : b = d
      · subst n; rw [upd_same, ← e, hd]
      · rw [upd_ne n]; exact kp b o e n
    refine ⟨_, rfl, d, od, kvs, rfl, upd_same, ?_⟩
    refine for_itemsT (fun i σ H' => ∃ v3 v4 v5 v6 : Option V, σ = [some (.ref d), some (.ref t), some (iv m), v3, v4, v5, v6] ∧ H' d = some (.frz od (.dT kvs)) ∧ (∀ b o, H b = some o → b ≠ d → H' b = some o) ∧ Uw78.isKept (rs.take i) m wt = true)
      ⟨none, none, none, none, rfl, upd_same, fun b o e n => by rw [upd_ne n]; exact e, rfl⟩ (fun i σ H' _ ⟨_, _, _, _, _, q, _⟩ => q) ?_ ?_
    · rintro i ky v Tn q σ H' hi hT hq ⟨v3, v4, v5, v6, rfl, h2, kp, hk⟩
      obtain ⟨r, hr', e1, q', e2, e3⟩ := paired_get pr hi
      cases e1
      cases e2
      have hrm := List.mem_of_getElem? hr'
      obtain ⟨la, lb, lc, ld⟩ := hlt r hrm
      have nTd : d ≠ Tn := ne_of_none h2 hT
      have hq' : H' q' = some (.tup [iv r.c, iv r.d]) := kp _ _ e3 (ne_of e3 hd (by intro q; cases q))
      have ht' : H' t = some (.tup (lv wt)) := kp _ _ ht (ne_of ht hd (by intro q; cases q))
      have sT : Same H' (upd H' Tn (.tup [.ref q, .ref q'])) := Same.new hT
      have u1 : (upd H' Tn (.tup [.ref q, .ref q'])) q = some (.tup [iv r.a, iv r.b]) := sT _ _ hq
      have u2 := sT _ _ hq'
      have u3 := sT _ _ ht'
      have h3 := sT _ _ h2
      have kp3 : ∀ b o, H b = some o → b ≠ d → (upd H' Tn (.tup [.ref q, .ref q'])) b = some o := fun b o e n => sT _ _ (kp b o e n)
      have T3 : (upd H' Tn (.tup [.ref q, .ref q'])) Tn = some (.tup [.ref q, .ref q']) := upd_same
      generalize upd H' Tn (.tup [.ref q, .ref q']) = H3 at *
      refine ⟨Tn, _, rfl, SqT.of T3, rfl, _, _, rfl, _, _, rfl, rfl, ?_⟩
      refine ⟨_, rfl, _, rfl, q, _, _, _, rfl, rfl, SqT.of u1, atI_nat (j := 0) rfl, t, _, _, _, rfl, rfl, SqT.of u3, atI_nat (lv_get la), _, rfl, _, rfl, q, _, _, _, rfl, rfl, SqT.of u1, atI_nat (j := 1) rfl, t, _, _, _, rfl, rfl, SqT.of u3, atI_nat (lv_get lb), _, _, rfl, rfl, ?_⟩
      refine ⟨_, rfl, _, rfl, q', _, _, _, rfl, rfl, SqT.of u2, atI_nat (j := 0) rfl, t, _, _, _, rfl, rfl, SqT.of u3, atI_nat (lv_get lc), _, rfl, _, rfl, q', _, _, _, rfl, rfl, SqT.of u2, atI_nat (j := 1) rfl, t, _, _, _, rfl, rfl, SqT.of u3, atI_nat (lv_get ld), _, _, rfl, rfl, ?_⟩
      refine ⟨_, rfl, _, rfl, _, _, rfl, rfl, (by omega), _, rfl, _, rfl, _, _, rfl, rfl, (by omega), rfl, _, rfl, ?_⟩
      have ek : Uw78.isKept (rs.take (i + 1)) m wt = ((wt.getD r.a 0 + wt.getD r.b 0) % m == (wt.getD r.c 0 + wt.getD r.d 0) % m) := by
        show (rs.take (i + 1)).all _ = _
        rw [List.take_add_one, hr', List.all_append]
        have hk : (rs.take i).all _ = true := hk
        rw [hk, Bool.true_and]
        show (_ && true) = _
        rw [Bool.and_true]
      have ev : ∀ a b : Nat, (((a : Int) + (b : Int)) % (m : Int)) = (((a + b) % m : Nat) : Int) := fun a b => by
        rw [← Int.natCast_add]
        first | exact (Int.natCast_emod _ _).symm | exact (Int.natCast_mod _ _).symm | exact (Int.ofNat_emod _ _).symm | rfl
      by_cases e : (wt.getD r.a 0 + wt.getD r.b 0) % m = (wt.getD r.c 0 + wt.getD r.d 0) % m
      · rw [decide_eq_true (show V.int ((((wt.getD r.a 0 : Nat) : Int) + ((wt.getD r.b 0 : Nat) : Int)) % (m : Int)) = V.int ((((wt.getD r.c 0 : Nat) : Int) + ((wt.getD r.d 0 : Nat) : Int)) % (m : Int)) by rw [ev, ev, e])]
        refine iteF ?_
        refine ⟨_, _, _, _, rfl, h3, kp3, ?_⟩
        rw [ek, e, beq_self_eq_true]
      · rw [decide_eq_false (show ¬ V.int ((((wt.getD r.a 0 : Nat) : Int) + ((wt.getD r.b 0 : Nat) : Int)) % (m : Int)) = V.int ((((wt.getD r.c 0 : Nat) : Int) + ((wt.getD r.d 0 : Nat) : Int)) % (m : Int)) from fun q => e (by
          rw [ev, ev] at q
          injection q with q
          omega))]
        refine iteT ?_
        refine ⟨h3, ?_⟩
        have hf : Uw78.isKept rs m wt = false := by
          show rs.all _ = false
          rw [List.all_eq_false]
          exact ⟨r, hrm, fun q => e (eq_of_beq q)⟩
        rw [hf] at z
        exact z _ (back _ kp3)
    · rintro σ H' ⟨v3, v4, v5, v6, rfl, h2, kp, hk⟩
      refine ⟨h2, ?_⟩
      have el : kvs.length = rs.length := Paired.length pr
      rw [el, List.take_length] at hk
      rw [hk] at z
      exact z _ (back _ kp)
end
end Isl

end

section
set_option Elab.async false
set_option linter.all false
set_option maxRecDepth 100000
set_option maxHeartbeats 4000000
namespace Isl
open PySem PySem.Spec PyProof.Rows L2
theorem flat_row : ∀ l : List (Nat × Nat), (l.flatMap fun p => Uw78.ints [p.1, p.2]).map V.int = l.flatMap pv2
  | [] => rfl
  | p :: l => by
    rw [List.flatMap_cons, List.map_append, flat_row l, List.flatMap_cons]
    rfl
theorem sqI {K : PySem.W.Frag} {H : Hp} {a : Addr} {s : List Nat} (h : H a = some (.lst (lv s))) : SqL K H a ((Uw78.ints s).map V.int) := by rw [← lv_ints]; exact SqL.of h
theorem sqT {K : PySem.W.Frag} {H : Hp} {a : Addr} {s : List Nat} (h : H a = some (.tup (lv s))) : SqT K H a ((Uw78.ints s).map V.int) := by rw [← lv_ints]; exact SqT.of h
def spFits (C : Addr) : Sp := fun vs H Q _ => ∃ (p s dx dB sB : Addr) (k : Nat) (st st0 : List Nat), vs = [.ref p, .ref s] ∧ H p = some (.ins C dx (isf k dB sB)) ∧ H s = some (.lst (lv st)) ∧ H sB = some (.tup (lv st0)) ∧ Q (.bl (st.length == k && Uw78.total st == Uw78.total st0)) H
def spWayTo (C : Addr) : Sp := fun vs H Q _ => ∃ (p s : Addr) (x : Uw78.Island) (st : List Nat), vs = [.ref p, .ref s] ∧ IslAt C H p x ∧ Ch.Wf x ∧ H s = some (.lst (lv st)) ∧ (∀ H' : Hp, Same H H' → Uw78.wayTo x.rules x.stand st = none → Q .non H') ∧
  ∀ (H' : Hp) (wy : Uw78.Way) (q : Addr) (ts : List Addr), Same H H' → Uw78.wayTo x.rules x.stand st = some wy → H' q = some (.lst (ts.map V.ref)) → TupsAt H' ts wy.row → Q (.ref q) H'
def spTo (C : Addr) : Sp := fun vs H Q _ => ∃ (p s : Addr) (st : List Nat), vs = [.ref p, .ref s] ∧ H s = some (.lst (lv st)) ∧ Does C (.to st) p H Q
def spOne (C : Addr) : Sp := fun vs H Q _ => ∃ (p : Addr) (c : Nat), vs = [.ref p, iv c] ∧ Does C (.one c) p H Q
def spComes (C : Addr) : Sp := fun vs H Q _ => ∃ p : Addr, vs = [.ref p] ∧ Does C .comes p H Q
def spRests (C : Addr) : Sp := fun vs H Q _ => ∃ p : Addr, vs = [.ref p] ∧ Does C .rests p H Q
def spAlways (C : Addr) : Sp := fun vs H Q _ => ∃ (p s : Addr) (st : List Nat), vs = [.ref p, .ref s] ∧ H s = some (.lst (lv st)) ∧ Does C (.always st) p H Q
def spKept (C : Addr) : Sp := fun vs H Q _ => ∃ (p : Addr) (m : Nat), vs = [.ref p, iv m] ∧ Does C (.kept m) p H Q
theorem way_short {x : Uw78.Island} (wf : Ch.Wf x) {st : List Nat} {wy : Uw78.Way} (h : Uw78.wayTo x.rules x.stand st = some wy) : wy.row.length ≤ 120 := by
  have hm : wy ∈ Uw78.comes x.rules x.stand := List.mem_of_find?_eq_some h
  rw [Ch.comes_end wf.ok wf.std] at hm
  obtain ⟨j, hj, e⟩ := List.mem_iff_getElem.mp hm
  have h1 := Ch.bfs_row 120 j wy (List.getElem?_eq_some_iff.mpr ⟨hj, e⟩)
  have h2 := Ch.bfs_ends wf.ok wf.std
  omega
section
variable {P : Program} {w : World} {K : PySem.W.Frag} {mg : Str → Option Value} {base : Heap}
theorem scFits : FnScope ["self", "stand"] ["self", "stand"] (defScope sFits) := ⟨rfl, rfl, rfl, by decide +kernel, rfl, by decide +kernel, by decide +kernel⟩
theorem ok_fits {f C : Addr} {fd : FuncData} (F : Fun K "fits" "Island.fits" sFits f fd) (T : Txt K mg C) : FnOk P w K mg base CX0 1 f fd ["self", "stand"] (spFits C) := by
  refine F.ok scFits (fun vs H Q E h => ?_) (fun cdv A outer s H vs Q E hr h => ?_)
  · obtain ⟨_, _, _, _, _, _, _, _, rfl, _⟩ := h
    rfl
  · obtain ⟨p, sa, dx, dB, sB, k, st, st0, rfl, hp, hs, hS, z⟩ := h
    refine ⟨_, pss_one (ps_ret (pe_and (pe_cmpR op_eq (pe_callB call_len_seq (by rfl) T.b.len PySem.boot_len (pa_cons (pv 1) pa_nil)) (pe_fld (pv 0) rfl) (nomark _))
      (pe_one (pe_cmpR op_eq (pe_callB (cr_sum rfl) (by rfl) T.b.sum PyProof.Rows.boot_sum (pa_cons (pv 1) pa_nil)) (pe_callB (cr_sumT rfl) (by rfl) T.b.sum PyProof.Rows.boot_sum (pa_cons (pe_fld (pv 0) rfl) pa_nil)) (nomark _))))), ?_⟩
    refine ⟨_, rfl, sa, _, rfl, .inl (SqL.of hs), _, rfl, p, C, dx, _, _, rfl, hp, T.cl, T.nC, isf_c _ _ _, rfl, _, rfl, ?_⟩
    have d1 : decide (V.int ((lv st).length : Int) = iv k) = (st.length == k) := by
      rw [lv_len, Bool.beq_eq_decide_eq, decide_eq_decide]
      constructor
      · intro q; injection q with q; omega
      · intro q; rw [q]
    rw [d1]
    cases e : st.length == k with
    | false =>
      rw [e, Bool.false_and] at z
      exact iteF z
    | true =>
      rw [e, Bool.true_and] at z
      refine iteT ?_
      refine ⟨_, rfl, sa, _, rfl, sqI hs, _, rfl, p, C, dx, _, _, rfl, hp, T.cl, T.nS, isf_s _ _ _, sB, _, rfl, sqT hS, rfl, ?_⟩
      have d2 : decide (V.int (Uw78.ints st).sum = V.int (Uw78.ints st0).sum) = (Uw78.total st == Uw78.total st0) := by
        rw [sum_ints, sum_ints, Bool.beq_eq_decide_eq, decide_eq_decide]
        constructor
        · intro q; injection q with q; omega
        · intro q; rw [q]
      rw [d2]
      exact z
theorem scWayTo : FnScope ["self", "stand"] ["self", "stand"] (defScope sWayTo) := ⟨rfl, rfl, rfl, by decide +kernel, rfl, by decide +kernel, by decide +kernel⟩
theorem ok_wayTo {f C : Addr} {fd : FuncData} (F : Fun K "way_to" "Island.way_to" sWayTo f fd) (T : Txt K mg C) (D : Defs K mg) : FnOk P w K mg base CX0 4 f fd ["self", "stand"] (spWayTo C) := by
  obtain ⟨fW, fdW, DW⟩ := D.ways
  have GW : FnOk P w K mg base CX0 3 fW fdW ["becomes", "stand"] spWays := ok_ways DW.fn T.b D
  refine F.ok scWayTo (fun vs H Q E h => ?_) (fun cdv A outer s H vs Q E hr h => ?_)
  · obtain ⟨_, _, _, _, rfl, _⟩ := h
    rfl
  · obtain ⟨p, sa, x, st, rfl, hI, wf, hs, z1, z2⟩ := h
    obtain ⟨dx, dB, sB, hp, hR, hS⟩ := hI.ex
    have hu := hu_of hr
    refine ⟨_, pss_one (ps_ret (pe_dget1 hu (pe_call GW hr rfl DW.m DW.fn.kp DW.b .nil pass0 (pa_cons (pe_fld (pv 0) rfl) (pa_cons (pe_fld (pv 0) rfl) pa_nil))) (pe_callTy call_tuple_of rfl T.b.tuple PyProof.Rows.boot_tuple (pa_cons (pv 1) pa_nil)) ⟨rfl, rfl, rfl, rfl⟩)), ?_⟩
    refine ⟨_, rfl, p, C, dx, _, _, rfl, hp, T.cl, T.nB, isf_b _ _ _, _, rfl, p, C, dx, _, _, rfl, hp, T.cl, T.nS, isf_s _ _ _, dB, sB, x.rules, x.stand, x.k, _, rfl, hR, hS, wf.ok, wf.std, wf.k2, wf.keys, fun H1 e he s1 w1 => ?_⟩
    obtain ⟨kvs, hE, pE⟩ := w1.ex
    refine ⟨e, rfl, .inr ⟨kvs, .inl hE⟩, _, rfl, sa, _, rfl, .inl ⟨SqL.of (s1 _ _ hs), fun t ht => ?_⟩⟩
    have s2 : Same H1 (upd H1 t (.tup (lv st))) := Same.new ht
    refine ⟨_, DGet.t (k := kst st) (s2 _ _ hE) (tup_k upd_same), ?_⟩
    rcases way_find pE st with ⟨vn, fn⟩ | ⟨wy, q, ts, fs, vs', hq, pq⟩
    · rw [vn]
      exact z1 _ (s1.trans s2) fn
    · rw [vs']
      exact z2 _ wy q ts (s1.trans s2) fs (s2 _ _ hq) (pq.same s2.t)
theorem scTo : FnScope ["self", "stand", "way"] ["self", "stand"] (defScope sTo) := ⟨rfl, rfl, rfl, by decide +kernel, rfl, by decide +kernel, by decide +kernel⟩
theorem ok_to {f C fF fW : Addr} {fd fdF fdW : FuncData} (F : Fun K "to" "Island.to" sTo f fd) (T : Txt K mg C) (D : Defs K mg) (MF : Mt K C "fits" "Island.fits" sFits ["self", "stand"] fF fdF) (MW : Mt K C "way_to" "Island.way_to" sWayTo ["self", "stand"] fW fdW) :
    FnOk P w K mg base CX0 5 f fd ["self", "stand"] (spTo C) := by
  obtain ⟨fO, fdO, DO⟩ := D.told
  have GO : FnOk P w K mg base CX0 1 fO fdO ["meetings"] spTold := ok_told DO.fn T.b
  have GF : FnOk P w K mg base CX0 1 fF fdF ["self", "stand"] (spFits C) := ok_fits MF.fn T
  have GW : FnOk P w K mg base CX0 4 fW fdW ["self", "stand"] (spWayTo C) := ok_wayTo MW.fn T D
  obtain ⟨_, mN⟩ := T.noSuch
  obtain ⟨_, mC⟩ := T.cannot
  refine F.ok scTo (fun vs H Q E h => ?_) (fun cdv A outer s H vs Q E hr h => ?_)
  · obtain ⟨_, _, _, rfl, _⟩ := h
    rfl
  · obtain ⟨p, sa, st, rfl, hs, x, hI, wf, z⟩ := h
    obtain ⟨dx, dB, sB, hp, hR, hS⟩ := hI.ex
    have hr1 := hr.mono (show 1 ≤ 4 by decide)
    refine ⟨_, pss_cons (ps_if (pt_not (pt_val (pe_meth (pv 0) T.cl MF.m GF hr1 MF.b .nil pass0 (pa_cons (pv 1) pa_nil))))
        (pss_one (ps_ret (pe_lst (pa_cons (pe_glob rfl mN (v := .int (-1)) ⟨_, rfl⟩) pa_nil)))) pss_nil)
      (pss_cons (ps_set (i := 2) scTo.nd rfl (Or.inl rfl) (pe_meth (pv 0) T.cl MW.m GW hr MW.b .nil pass0 (pa_cons (pv 1) pa_nil)))
      (pss_cons (ps_if (pt_cmp (pc_isN (pv 2)))
        (pss_one (ps_ret (pe_lst (pa_cons (pe_glob rfl mC (v := .int (-6)) ⟨_, rfl⟩) pa_nil)))) pss_nil)
      (pss_one (ps_ret (pe_call GO hr1 rfl DO.m DO.fn.kp DO.b .nil pass0 (pa_cons (pv 2) pa_nil)))))), ?_⟩
    refine ⟨_, rfl, p, dx, _, rfl, hp, isf_no _ _ _ (by decide +kernel) (by decide +kernel) (by decide +kernel), _, rfl, p, sa, dx, dB, sB, x.k, st, x.stand, rfl, hp, hs, hS, _, rfl, ?_⟩
    have e0 : Uw78.step x (.to st) = (x, if Uw78.isStand x st = false then [-1] else match Uw78.wayTo x.rules x.stand st with
      | none => [-6]
      | some w => (w.row.length : Int) :: w.row.flatMap fun p => Uw78.ints [p.1, p.2]) := rfl
    have ei : (st.length == x.k && Uw78.total st == Uw78.total x.stand) = Uw78.isStand x st := rfl
    rw [ei]
    cases hf : Uw78.isStand x st with
    | false =>
      refine iteT ?_
      rw [hf, if_pos rfl] at e0
      exact ⟨sl1, fun l hl => refuse hI z e0 (Same.refl H) hl⟩
    | true =>
      refine iteF ?_
      rw [hf, if_neg (by decide)] at e0
      refine ⟨_, rfl, p, dx, _, rfl, hp, isf_no _ _ _ (by decide +kernel) (by decide +kernel) (by decide +kernel), _, rfl, p, sa, x, st, rfl, hI, wf, hs, fun H1 s1 hn => ?_, fun H1 wy q ts s1 hw hq pq => ?_⟩
      · rw [hn] at e0
        refine ⟨_, rfl, _, rfl, ?_⟩
        rw [decide_eq_true (show V.non = V.non from rfl)]
        refine iteT ?_
        exact ⟨sl1, fun l hl => refuse hI z e0 s1 hl⟩
      · rw [hw] at e0
        refine ⟨_, rfl, _, rfl, ?_⟩
        rw [decide_eq_false (show ¬ V.ref q = V.non from fun z => by cases z)]
        refine iteF ?_
        have sh := way_short wf hw
        refine ⟨_, rfl, q, ts, wy.row, rfl, hq, pq, by omega, fun H2 l hl s2 h2 => ?_⟩
        refine same_out hI z e0 (s1.trans s2) (s1.free hl) ?_
        rw [h2, List.map_cons, flat_row]
theorem scOne : FnScope ["self", "colour", "wanted", "way"] ["self", "colour"] (defScope sOne) := ⟨rfl, rfl, rfl, by decide +kernel, rfl, by decide +kernel, by decide +kernel⟩
theorem ok_one {f C fL fW : Addr} {fd fdL fdW : FuncData} (F : Fun K "one" "Island.one" sOne f fd) (T : Txt K mg C) (D : Defs K mg) (ML : Mt K C "lacks_any" "Island.lacks_any" sLacks ["self", "named"] fL fdL) (MW : Mt K C "way_to" "Island.way_to" sWayTo ["self", "stand"] fW fdW) :
    FnOk P w K mg base CX0 5 f fd ["self", "colour"] (spOne C) := by
  have GL : FnOk P w K mg base CX0 1 fL fdL ["self", "named"] (spLacks C) := ok_lacks ML.fn T
  have GW : FnOk P w K mg base CX0 4 fW fdW ["self", "stand"] (spWayTo C) := ok_wayTo MW.fn T D
  obtain ⟨_, mN⟩ := T.noSuch
  obtain ⟨_, mC⟩ := T.cannot
  refine F.ok scOne (fun vs H Q E h => ?_) (fun cdv A outer s H vs Q E hr h => ?_)
  · obtain ⟨_, _, rfl, _⟩ := h
    rfl
  · obtain ⟨p, c, rfl, x, hI, wf, z⟩ := h
    obtain ⟨dx, dB, sB, hp, hR, hS⟩ := hI.ex
    have hr1 := hr.mono (show 1 ≤ 4 by decide)
    refine ⟨_, pss_cons (ps_if (pt_val (pe_meth (pv 0) T.cl ML.m GL hr1 ML.b .nil pass0 (pa_cons (pe_tup (pa_cons (pv 1) pa_nil)) pa_nil)))
        (pss_one (ps_ret (pe_lst (pa_cons (pe_glob rfl mN (v := .int (-1)) ⟨_, rfl⟩) pa_nil)))) pss_nil)
      (pss_cons (ps_set (i := 2) scOne.nd rfl (Or.inl rfl) (pe_op op_rep (pe_lst (pa_cons pe_int pa_nil)) (pe_fld (pv 0) rfl)))
      (pss_cons (ps_asg (pe_callB (cr_sumT rfl) (by rfl) T.b.sum PyProof.Rows.boot_sum (pa_cons (pe_fld (pv 0) rfl) pa_nil)) (pg_sub (pv 2) (pv 1) set_list))
      (pss_cons (ps_set (i := 3) scOne.nd rfl (Or.inl rfl) (pe_meth (pv 0) T.cl MW.m GW hr MW.b .nil pass0 (pa_cons (pv 2) pa_nil)))
      (pss_cons (ps_if (pt_cmp (pc_isN (pv 3)))
        (pss_one (ps_ret (pe_lst (pa_cons (pe_glob rfl mC (v := .int (-6)) ⟨_, rfl⟩) pa_nil)))) pss_nil)
      (pss_one (ps_ret (pe_lst (pa_cons (pe_callB call_len_seq (by rfl) T.b.len PySem.boot_len (pa_cons (pv 3) pa_nil)) pa_nil)))))))), ?_⟩
    refine ⟨_, rfl, p, dx, _, rfl, hp, isf_no _ _ _ (by decide +kernel) (by decide +kernel) (by decide +kernel), _, rfl, sl1, fun n hn => ?_⟩
    have s1 : Same H (upd H n (.tup [iv c])) := Same.new hn
    refine ⟨p, n, dx, dB, sB, x.k, [c], rfl, s1 _ _ hp, upd_same, _, rfl, ite2 (fun h => ?_) (fun h => ?_)⟩
    · have hk : x.k ≤ c := by
        obtain ⟨y, hy, hle⟩ := ordered_lacks.mp h
        rw [List.mem_singleton.mp hy] at hle; exact hle
      have e0 : Uw78.step x (.one c) = (x, [-1]) := by
        show (x, if x.k ≤ c then [-1] else _) = _
        rw [if_pos hk]
      exact ⟨sl1, fun l hl => refuse hI z e0 s1 hl⟩
    · have hc : c < x.k := Nat.lt_of_not_le fun q => h (ordered_lacks.mpr ⟨c, by simp, q⟩)
      have e0 : Uw78.step x (.one c) = (x, match Uw78.wayTo x.rules x.stand (Uw78.allOf x.k (Uw78.total x.stand) c) with
        | none => [-6]
        | some w => [(w.row.length : Int)]) := by
        show (x, if x.k ≤ c then [-1] else _) = _
        rw [if_neg (by omega)]
        rfl
      have k4 := wf.k4
      generalize upd H n (.tup [iv c]) = H1 at *
      refine ⟨sl1, fun q hq => ?_⟩
      have s2 : Same H1 (upd H1 q (.lst [V.int 0])) := Same.new hq
      have Q2 : (upd H1 q (.lst [V.int 0])) q = some (.lst [V.int 0]) := upd_same
      generalize upd H1 q (.lst [V.int 0]) = H2 at *
      have s02 := s1.trans s2
      refine ⟨_, rfl, p, C, dx, _, _, rfl, s02 _ _ hp, T.cl, T.nC, isf_c _ _ _, q, _, _, rfl, rfl, Q2, by omega, by omega, (by show 1 * x.k ≤ sizeLine; rw [sizeLine_eq]; omega), fun l hl => ?_⟩
      have s3 : Same H2 (upd H2 l (.lst (List.replicate ((x.k : Nat) : Int).toNat [V.int 0]).flatten)) := Same.new hl
      have L3 : (upd H2 l (.lst (List.replicate ((x.k : Nat) : Int).toNat [V.int 0]).flatten)) l = some (.lst (lv (List.replicate x.k 0))) := by
        rw [upd_same]; exact congrArg (fun z => some (HO.lst z)) (flat_zeros x.k)
      generalize upd H2 l (.lst (List.replicate ((x.k : Nat) : Int).toNat [V.int 0]).flatten) = H3 at *
      have s03 := s02.trans s3
      have nl : H l = none := s02.free hl
      refine ⟨_, rfl, p, C, dx, _, _, rfl, s03 _ _ hp, T.cl, T.nS, isf_s _ _ _, sB, _, rfl, sqT (s03 _ _ hS), ?_⟩
      refine ⟨_, rfl, _, rfl, l, _, _, c, rfl, rfl, L3, ixN_nat (by rw [lv_len, List.length_replicate]; exact hc), ?_⟩
      have s4 : Same H (upd H3 l (.lst ((lv (List.replicate x.k 0)).set c (V.int (Uw78.ints x.stand).sum)))) := s03.put nl
      have L4 : (upd H3 l (.lst ((lv (List.replicate x.k 0)).set c (V.int (Uw78.ints x.stand).sum)))) l = some (.lst (lv (Uw78.allOf x.k (Uw78.total x.stand) c))) := by
        rw [upd_same, sum_ints, lv_set, Ch.allOf_eq]
      generalize upd H3 l (.lst ((lv (List.replicate x.k 0)).set c (V.int (Uw78.ints x.stand).sum))) = H4 at *
      refine ⟨_, rfl, p, dx, _, rfl, s4 _ _ hp, isf_no _ _ _ (by decide +kernel) (by decide +kernel) (by decide +kernel), _, rfl, p, l, x, _, rfl, hI.same s4, wf, L4, fun H5 s5 hn => ?_, fun H5 wy q ts s5 hw hq pq => ?_⟩
      · rw [hn] at e0
        refine ⟨_, rfl, _, rfl, ?_⟩
        rw [decide_eq_true (show V.non = V.non from rfl)]
        refine iteT ?_
        exact ⟨sl1, fun l hl => refuse hI z e0 (s4.trans s5) hl⟩
      · rw [hw] at e0
        refine ⟨_, rfl, _, rfl, ?_⟩
        rw [decide_eq_false (show ¬ V.ref q = V.non from fun z => by cases z)]
        refine iteF ?_
        refine ⟨_, rfl, q, _, rfl, .inl (SqL.of hq), sl1, fun l hl => ?_⟩
        have el : (ts.map V.ref).length = wy.row.length := by rw [List.length_map, Paired.length pq]
        rw [el]
        exact refuse hI z e0 (s4.trans s5) hl
theorem scComes : FnScope ["self"] ["self"] (defScope sComes) := ⟨rfl, rfl, rfl, by decide +kernel, rfl, by decide +kernel, by decide +kernel⟩
theorem ok_comes {f C : Addr} {fd : FuncData} (F : Fun K "comes" "Island.comes" sComes f fd) (T : Txt K mg C) (D : Defs K mg) : FnOk P w K mg base CX0 4 f fd ["self"] (spComes C) := by
  obtain ⟨fW, fdW, DW⟩ := D.ways
  have GW : FnOk P w K mg base CX0 3 fW fdW ["becomes", "stand"] spWays := ok_ways DW.fn T.b D
  refine F.ok scComes (fun vs H Q E h => ?_) (fun cdv A outer s H vs Q E hr h => ?_)
  · obtain ⟨_, rfl, _⟩ := h
    rfl
  · obtain ⟨p, rfl, x, hI, wf, z⟩ := h
    obtain ⟨dx, dB, sB, hp, hR, hS⟩ := hI.ex
    refine ⟨_, pss_one (ps_ret (pe_lst (pa_cons (pe_callB call_lenT (by rfl) T.b.len PySem.boot_len (pa_cons (pe_call GW hr rfl DW.m DW.fn.kp DW.b .nil pass0 (pa_cons (pe_fld (pv 0) rfl) (pa_cons (pe_fld (pv 0) rfl) pa_nil))) pa_nil)) pa_nil))), ?_⟩
    refine ⟨_, rfl, p, C, dx, _, _, rfl, hp, T.cl, T.nB, isf_b _ _ _, _, rfl, p, C, dx, _, _, rfl, hp, T.cl, T.nS, isf_s _ _ _, dB, sB, x.rules, x.stand, x.k, _, rfl, hR, hS, wf.ok, wf.std, wf.k2, wf.keys, fun H1 e he s1 w1 => ?_⟩
    obtain ⟨kvs, hE, pE⟩ := w1.ex
    refine ⟨e, kvs, rfl, .inl hE, sl1, fun l hl => ?_⟩
    rw [Paired.length pE]
    exact refuse hI z rfl s1 hl
theorem scAlways : FnScope ["self", "stand", "ways", "wanted", "leading"] ["self", "stand"] (defScope sAlways) := ⟨rfl, rfl, rfl, by decide +kernel, rfl, by decide +kernel, by decide +kernel⟩
theorem ok_always {f C fF : Addr} {fd fdF : FuncData} (F : Fun K "always" "Island.always" sAlways f fd) (T : Txt K mg C) (D : Defs K mg) (MF : Mt K C "fits" "Island.fits" sFits ["self", "stand"] fF fdF) :
    FnOk P w K mg base CX0 4 f fd ["self", "stand"] (spAlways C) := by
  obtain ⟨fW, fdW, DW⟩ := D.ways
  obtain ⟨fA, fdA, DA⟩ := D.ahead
  obtain ⟨fL, fdL, DL⟩ := D.lead
  have GF : FnOk P w K mg base CX0 1 fF fdF ["self", "stand"] (spFits C) := ok_fits MF.fn T
  have GW : FnOk P w K mg base CX0 3 fW fdW ["becomes", "stand"] spWays := ok_ways DW.fn T.b D
  have GA : FnOk P w K mg base CX0 3 fA fdA ["becomes", "stands"] spAhead := ok_ahead DA.fn T.b D
  have GL : FnOk P w K mg base CX0 1 fL fdL ["ahead", "wanted"] spLead := ok_lead DL.fn T.b
  obtain ⟨_, mN⟩ := T.noSuch
  refine F.ok scAlways (fun vs H Q E h => ?_) (fun cdv A outer s H vs Q E hr h => ?_)
  · obtain ⟨_, _, _, rfl, _⟩ := h
    rfl
  · obtain ⟨p, sa, st, rfl, hs, x, hI, wf, z⟩ := h
    obtain ⟨dx, dB, sB, hp, hR, hS⟩ := hI.ex
    have hu := hu_of hr
    have hr1 := hr.mono (show 1 ≤ 3 by decide)
    refine ⟨_, pss_cons (ps_if (pt_not (pt_val (pe_meth (pv 0) T.cl MF.m GF hr1 MF.b .nil pass0 (pa_cons (pv 1) pa_nil))))
        (pss_one (ps_ret (pe_lst (pa_cons (pe_glob rfl mN (v := .int (-1)) ⟨_, rfl⟩) pa_nil)))) pss_nil)
      (pss_cons (ps_set (i := 2) scAlways.nd rfl (Or.inl rfl) (pe_call GW hr rfl DW.m DW.fn.kp DW.b .nil pass0 (pa_cons (pe_fld (pv 0) rfl) (pa_cons (pe_fld (pv 0) rfl) pa_nil))))
      (pss_cons (ps_set (i := 3) scAlways.nd rfl (Or.inl rfl) (pe_callTy call_tuple_of rfl T.b.tuple PyProof.Rows.boot_tuple (pa_cons (pv 1) pa_nil)))
      (pss_cons (ps_if (pt_cmp (pc_dnotin hu (pv 3) (pv 2))) (pss_one (ps_ret (pe_lst (pa_cons pe_int pa_nil)))) pss_nil)
      (pss_cons (ps_set (i := 4) scAlways.nd rfl (Or.inl rfl) (pe_call GL hr1 rfl DL.m DL.fn.kp DL.b .nil pass0 (pa_cons (pe_call GA hr rfl DA.m DA.fn.kp DA.b .nil pass0 (pa_cons (pe_fld (pv 0) rfl) (pa_cons (pv 2) pa_nil))) (pa_cons (pv 3) pa_nil))))
      (pss_cons (ps_if (pt_cmpR op_eq (pe_callB call_len_seq (by rfl) T.b.len PySem.boot_len (pa_cons (pv 4) pa_nil)) (pe_callB call_lenT (by rfl) T.b.len PySem.boot_len (pa_cons (pv 2) pa_nil)) (nomark _)) (pss_one (ps_ret (pe_lst (pa_cons pe_int pa_nil)))) pss_nil)
      (pss_one (ps_ret (pe_lst (pa_cons pe_int pa_nil))))))))), ?_⟩
    refine ⟨_, rfl, p, dx, _, rfl, hp, isf_no _ _ _ (by decide +kernel) (by decide +kernel) (by decide +kernel), _, rfl, p, sa, dx, dB, sB, x.k, st, x.stand, rfl, hp, hs, hS, _, rfl, ?_⟩
    have e0 : Uw78.step x (.always st) = (x, if Uw78.isStand x st = false then [-1] else if Uw78.always x.rules x.stand st = true then [1] else [0]) := rfl
    have ei : (st.length == x.k && Uw78.total st == Uw78.total x.stand) = Uw78.isStand x st := rfl
    rw [ei]
    cases hf : Uw78.isStand x st with
    | false =>
      refine iteT ?_
      rw [hf, if_pos rfl] at e0
      exact ⟨sl1, fun l hl => refuse hI z e0 (Same.refl H) hl⟩
    | true =>
      refine iteF ?_
      rw [hf, if_neg (by decide)] at e0
      refine ⟨_, rfl, p, C, dx, _, _, rfl, hp, T.cl, T.nB, isf_b _ _ _, _, rfl, p, C, dx, _, _, rfl, hp, T.cl, T.nS, isf_s _ _ _, dB, sB, x.rules, x.stand, x.k, _, rfl, hR, hS, wf.ok, wf.std, wf.k2, wf.keys, fun H1 e he s1 w1 => ?_⟩
      obtain ⟨kvs, hE, pE⟩ := w1.ex
      refine ⟨_, rfl, sa, _, rfl, .inl ⟨SqL.of (s1 _ _ hs), fun t ht => ?_⟩⟩
      have s2 : Same H1 (upd H1 t (.tup (lv st))) := Same.new ht
      have T2 : (upd H1 t (.tup (lv st))) t = some (.tup (lv st)) := upd_same
      generalize upd H1 t (.tup (lv st)) = H2 at *
      have s02 := s1.trans s2
      refine ⟨_, rfl, _, rfl, e, _, rfl, DGet.t (k := kst st) (s2 _ _ hE) (tup_k T2), _, rfl, ?_⟩
      have out : ∀ (b : Bool) (H3 : Hp), Same H H3 → Uw78.always x.rules x.stand st = b → ∀ l, H3 l = none → Q (.ref l) (upd H3 l (.lst [.int (if b = true then 1 else 0)])) := fun b H3 s3 hb l hl => by
        refine refuse hI z ?_ s3 hl
        rw [e0, hb]
        cases b <;> rfl
      rcases way_find pE st with ⟨vn, fn⟩ | ⟨wy, q, ts, fs, vs', hq, pq⟩
      · rw [vn]
        refine iteT ?_
        have hno : Ch.has (Uw78.comes x.rules x.stand) st = false := by rw [Ch.has_find, fn]; rfl
        exact ⟨sl1, fun l hl => out false _ s02 (Ch.always_no wf.ok wf.std hno) l hl⟩
      · rw [vs']
        refine iteF ?_
        have hyes : Ch.has (Uw78.comes x.rules x.stand) st = true := by rw [Ch.has_find, fs]; rfl
        have stW := Ch.has_iff.mp hyes
        have nde : dB ≠ e := by
          obtain ⟨kv0, h0, _⟩ := hR.ex
          exact ne_of_none h0 he
        have closed : ∀ u ∈ (Uw78.comes x.rules x.stand).map (fun w => w.stand), Ch.Std x.k (Uw78.total x.stand) u ∧ ∀ r ∈ Uw78.may x.rules u, Uw78.behind u r ∈ (Uw78.comes x.rules x.stand).map fun w => w.stand := fun u hu => by
          obtain ⟨wu, hwu, rfl⟩ := List.mem_map.mp hu
          refine ⟨Ch.comes_std wf.ok wf.std wu hwu, fun r hr => ?_⟩
          obtain ⟨l0, h0⟩ := (Ch.comes_iff wf.ok wf.std).mp (Ch.has_iff.mpr hu)
          exact Ch.has_iff.mp ((Ch.comes_iff wf.ok wf.std).mpr ⟨_, Ch.leads_snoc h0 hr⟩)
        have cl := Ch.comes_len wf.ok wf.std
        refine ⟨_, rfl, p, C, dx, _, _, rfl, s02 _ _ hp, T.cl, T.nB, isf_b _ _ _, _, rfl, dB, e, x.rules, _, x.k, _, rfl, nde, hR.move s02.t (fun kvs e => s02 _ _ e), w1.same s2, wf.ok, wf.k2, wf.keys, wf.rlen, cl, Ch.comes_nd wf.ok wf.std, closed, fun H3 a A ha s3 h3 p3 => ?_⟩
        refine ⟨_, rfl, a, t, A, _, _, st, rfl, h3, p3, s3 _ _ T2, stW, fun u v huv => (Ch.mem_edges.mp huv).1, by rw [List.length_map]; exact cl, fun H4 l ts4 L hl s4 h4 p4 bk bc => ?_⟩
        have s04 := s02.trans (s3.trans s4)
        have E4 := s4 _ _ (s3 _ _ (s2 _ _ hE))
        have tl : ts4.length = L.length := Paired.length p4
        have kl : kvs.length = (Uw78.comes x.rules x.stand).length := Paired.length pE
        refine ⟨_, rfl, l, _, rfl, .inl (SqL.of h4), _, rfl, e, kvs, rfl, .inl E4, rfl, _, rfl, ?_⟩
        have ab := Ch.always_back wf.ok wf.std (t := st) bk.nd (fun u hu => ⟨bk.sub u hu, bk.pr (fun u => ∃ l, Uw78.Leads x.rules u l st) ⟨[], .none st⟩ (fun u v huv ⟨l, hl⟩ => by
          obtain ⟨_, r, hr, rfl⟩ := Ch.mem_edges.mp huv
          exact ⟨_, .more u _ r l hr hl⟩) u hu⟩) bk.has bc
        rw [List.length_map, tl, kl]
        by_cases hlen : L.length = (Uw78.comes x.rules x.stand).length
        · rw [decide_eq_true (show V.int ((L.length : Nat) : Int) = V.int (((Uw78.comes x.rules x.stand).length : Nat) : Int) by rw [hlen])]
          refine iteT ?_
          exact ⟨sl1, fun l hl => out true _ s04 (ab.mp hlen) l hl⟩
        · rw [decide_eq_false (show ¬ V.int ((L.length : Nat) : Int) = V.int (((Uw78.comes x.rules x.stand).length : Nat) : Int) from fun q => hlen (by injection q with q; omega))]
          refine iteF ?_
          have ef : Uw78.always x.rules x.stand st = false := by
            cases q : Uw78.always x.rules x.stand st with
            | false => rfl
            | true => exact absurd (ab.mpr q) hlen
          exact ⟨sl1, fun l hl => out false _ s04 ef l hl⟩
end
end Isl

end

section
set_option Elab.async false
set_option linter.all false
set_option maxRecDepth 100000
set_option maxHeartbeats 4000000
namespace Isl
open PySem PySem.Spec PyProof.Rows L2
theorem lex_lower : ∀ {a b : List Nat}, a.length = b.length → HT.lexLt (Uw78.ints a) (Uw78.ints b) = Uw78.lower a b
  | [], [], _ => rfl
  | x :: a, y :: b, h => by
    show HT.lexLt ((x : Int) :: Uw78.ints a) ((y : Int) :: Uw78.ints b) = (decide (x < y) || (x == y && Uw78.lower a b))
    rw [HT.lexLt_cons, lex_lower (by simpa using h)]
    by_cases e : x = y
    · subst e
      rw [if_pos rfl, beq_self_eq_true, decide_eq_false (Nat.lt_irrefl x), Bool.false_or, Bool.true_and]
    · rw [if_neg (by omega), beq_eq_false_iff_ne.mpr e, Bool.false_and, Bool.or_false, decide_eq_decide]
      omega
  | [], _ :: _, h => by cases h
  | _ :: _, [], h => by cases h
theorem argBest_le (bt : Nat → Nat → Bool) : ∀ k, argBest bt k ≤ k
  | 0 => Nat.le_refl _
  | k + 1 => by
    have := argBest_le bt k
    unfold argBest
    split <;> omega
/-- the one that min finds is the first of them -/
theorem min_first {R : List (List Nat)} {k : Nat} (hk : ∀ u ∈ R, u.length = k) (h0 : 0 < R.length) :
    R[argBest (fun i j => HT.lexLt ((R.map Uw78.ints).getD i []) ((R.map Uw78.ints).getD j [])) (R.length - 1)]? = some (Uw78.firstOf R) := by
  have le := argBest_le (fun i j => HT.lexLt ((R.map Uw78.ints).getD i []) ((R.map Uw78.ints).getD j []))
  have gd : ∀ i, i < R.length → (R.map Uw78.ints).getD i [] = Uw78.ints (R.getD i []) := fun i hi => by
    rw [List.getD_eq_getElem?_getD, List.getElem?_map, List.getD_eq_getElem?_getD, List.getElem?_eq_getElem hi]; rfl
  have ln : ∀ i, i < R.length → (R.getD i []).length = k := fun i hi => by
    rw [List.getD_eq_getElem?_getD, List.getElem?_eq_getElem hi]; exact hk _ (List.getElem_mem hi)
  have e := Ch.best_first h0 (argBest (fun i j => HT.lexLt ((R.map Uw78.ints).getD i []) ((R.map Uw78.ints).getD j []))) rfl (fun j hj => by
    have hj' := le j
    show (if HT.lexLt ((R.map Uw78.ints).getD (j + 1) []) ((R.map Uw78.ints).getD (argBest (fun i j => HT.lexLt ((R.map Uw78.ints).getD i []) ((R.map Uw78.ints).getD j [])) j) []) = true then j + 1 else _) = _
    rw [gd _ hj, gd _ (by omega), lex_lower (by rw [ln _ hj, ln _ (by omega)])])
  rw [← e]
  have := le (R.length - 1)
  rw [List.getD_eq_getElem?_getD, List.getElem?_eq_getElem (by omega)]
  rfl
theorem ints_len (s : List Nat) : (Uw78.ints s).length = s.length := List.length_map _
theorem std_ints {K : PySem.W.Frag} {H : Hp} {ts : List Addr} {ss : List (List Nat)} (h : StdsAt H ts ss) : Paired (fun t ns => SqT K H t (ns.map V.int)) ts (ss.map Uw78.ints) := by
  induction h with
  | nil => exact .nil
  | cons hq _ ih => exact .cons (sqT hq) ih
section
variable {P : Program} {w : World} {K : PySem.W.Frag} {mg : Str → Option Value} {base : Heap}
/-- the block's names of a comprehension that is given a name -/
def lcScope (d : Scope) : Stmt → Scope
  | .Assign _ (.ListComp _ _ sc _) _ => sc
  | _ => d
abbrev lcAt (st : Stmt) (i : Nat) : Scope := lcScope (defScope st) ((defBody st).getD i (.Pass ⟨0, 0, 0, 0⟩))
theorem bkRests : BlkOk ["self", "ways", "resting", "answer", "stand"] (defScope sRests) (lcAt sRests 1) [("stand", 4)] := ⟨rfl, by decide +kernel, by decide +kernel, by decide +kernel, by decide +kernel⟩
theorem bkKept1 : BlkOk ["self", "m", "rows", "unlike", "answer", "row"] (defScope sKept) (lcAt sKept 1) [("row", 5)] := ⟨rfl, by decide +kernel, by decide +kernel, by decide +kernel, by decide +kernel⟩
theorem bkKept2 : BlkOk ["self", "m", "rows", "unlike", "answer", "row"] (defScope sKept) (lcAt sKept 2) [("row", 5)] := ⟨rfl, by decide +kernel, by decide +kernel, by decide +kernel, by decide +kernel⟩
theorem scRests : FnScope ["self", "ways", "resting", "answer", "stand"] ["self"] (defScope sRests) := ⟨rfl, rfl, rfl, by decide +kernel, rfl, by decide +kernel, by decide +kernel⟩
theorem ok_rests {f C : Addr} {fd : FuncData} (F : Fun K "rests" "Island.rests" sRests f fd) (T : Txt K mg C) (D : Defs K mg) : FnOk P w K mg base CX0 4 f fd ["self"] (spRests C) := by
  obtain ⟨fP, fdP, DP⟩ := D.pairs
  obtain ⟨fT, fdT, DT⟩ := D.there
  obtain ⟨fM, fdM, DM⟩ := D.poss
  obtain ⟨fW, fdW, DW⟩ := D.ways
  have GM : FnOk P w K mg base CX0 2 fM fdM ["becomes", "stand"] spPoss := ok_poss DM.fn T.b DP DT
  have GW : FnOk P w K mg base CX0 3 fW fdW ["becomes", "stand"] spWays := ok_ways DW.fn T.b D
  refine F.ok scRests (fun vs H Q E h => ?_) (fun cdv A outer s H vs Q E hr h => ?_)
  · obtain ⟨_, rfl, _⟩ := h
    rfl
  · obtain ⟨p, rfl, x, hI, wf, z⟩ := h
    obtain ⟨dx, dB, sB, hp, hR, hS⟩ := hI.ex
    have hu := hu_of hr
    have hr2 := hr.mono (show 2 ≤ 3 by decide)
    refine ⟨_, pss_cons (ps_set (i := 1) scRests.nd rfl (Or.inl rfl) (pe_call GW hr rfl DW.m DW.fn.kp DW.b .nil pass0 (pa_cons (pe_fld (pv 0) rfl) (pa_cons (pe_fld (pv 0) rfl) pa_nil))))
      (pss_cons (ps_lock (ps_setLc (i := 2) (own := [("stand", 4)]) (tt := tTest (tOp rEq (tCB (fun xs H Q => ∃ p ys, xs = [.ref p] ∧ (SqL K H p ys ∨ SqT K H p ys) ∧ Q (.int ys.length) H) (tCons (tCall spPoss [] E0 (tCons (tFld K (tVar 0) "becomes") (tCons (tVar 4) tNil))) tNil)) (tC (.int 0)))) rfl scRests.nd rfl rfl (sw_true rfl rfl rfl rfl) (pi_keys (pv 1)) bkRests
        (fun _ _ _ _ _ => pg_name (i := 4) scRests.nd rfl (Or.inl rfl))
        (fun _ _ _ _ _ => pts_one (pt_cmpR op_eq (pe_callB call_len_seq (by rfl) T.b.len PySem.boot_len (pa_cons (pe_call GM hr2 rfl DM.m DM.fn.kp DM.b .nil pass0 (pa_cons (pe_fld (pv 0) rfl) (pa_cons (pv 4) pa_nil))) pa_nil)) pe_int (nomark _)))
        (fun _ _ _ _ _ => pv 4)))
      (pss_cons (ps_set (i := 3) scRests.nd rfl (Or.inl rfl) (pe_lst (pa_cons (pe_callB call_len_seq (by rfl) T.b.len PySem.boot_len (pa_cons (pv 2) pa_nil)) pa_nil)))
      (pss_cons (ps_if (pt_cmpR op_gt (pe_callB call_len_seq (by rfl) T.b.len PySem.boot_len (pa_cons (pv 2) pa_nil)) pe_int (nomark _))
        (pss_one (ps_expr (pe_bm PySem.F.plainAttrs_list PySem.F.slot_list_extend PySem.F.type_list_extend mt_extendT (pv 3) (pa_cons (pe_callB (cr_minTs rfl hu) (by rfl) T.b.min PyProof.Rows.boot_min (pa_cons (pv 2) pa_nil)) pa_nil)))) pss_nil)
      (pss_one (ps_ret (pv 3)))))), ?_⟩
    refine ⟨_, rfl, p, C, dx, _, _, rfl, hp, T.cl, T.nB, isf_b _ _ _, _, rfl, p, C, dx, _, _, rfl, hp, T.cl, T.nS, isf_s _ _ _, dB, sB, x.rules, x.stand, x.k, _, rfl, hR, hS, wf.ok, wf.std, wf.k2, wf.keys, fun H1 e he s1 w1 => ?_⟩
    obtain ⟨kvs, hE, pE⟩ := w1.ex
    have cl := Ch.comes_len wf.ok wf.std
    have kl : kvs.length = (Uw78.comes x.rules x.stand).length := Paired.length pE
    have e0 : Uw78.step x .rests = (x, ((((Uw78.comes x.rules x.stand).map fun w => w.stand).filter fun t => (Uw78.may x.rules t).isEmpty).length : Int) :: Uw78.ints (Uw78.firstOf (((Uw78.comes x.rules x.stand).map fun w => w.stand).filter fun t => (Uw78.may x.rules t).isEmpty))) := rfl
    have atW : ∀ {i : Nat} {ky : List Key} {v : V}, kvs[i]? = some (ky, v) → ∃ u, ((Uw78.comes x.rules x.stand).map fun w => w.stand)[i]? = some u ∧ ky = kst u := fun {i ky v} h => by
      obtain ⟨wy, hy, e1, _⟩ := paired_get pE h
      exact ⟨wy.stand, by rw [List.getElem?_map, hy]; rfl, e1⟩
    have stdW : ∀ u ∈ (Uw78.comes x.rules x.stand).map (fun w => w.stand), Ch.Std x.k (Uw78.total x.stand) u := fun u hu => by
      obtain ⟨wu, hwu, rfl⟩ := List.mem_map.mp hu
      exact Ch.comes_std wf.ok wf.std wu hwu
    have Wl : ((Uw78.comes x.rules x.stand).map fun w => w.stand).length = kvs.length := by rw [List.length_map, kl]
    generalize ((Uw78.comes x.rules x.stand).map fun w => w.stand) = W at *
    refine ⟨e, .dT kvs, hE, trivial, fun od => ?_⟩
    refine ⟨_, rfl, e, od, rfl, .inr ⟨kvs, upd_same, fun D hD => ?_⟩⟩
    have nDe : D ≠ e := fun q => by rw [q, upd_same] at hD; cases hD
    have hD1 : H1 D = none := by rw [upd_ne nDe] at hD; exact hD
    have nB : dB ≠ e := by
      obtain ⟨kv0, h0, _⟩ := hR.ex
      exact ne_of_none h0 he
    refine lc_keysT (fun i H' => ∃ qs : List Addr, H' e = some (.frz od (.dT kvs)) ∧ (∀ b o, H1 b = some o → b ≠ e → H' b = some o) ∧ H' D = some (.lst (qs.map V.ref)) ∧ StdsAt H' qs ((W.take i).filter fun t => (Uw78.may x.rules t).isEmpty))
      ⟨[], by rw [upd_ne (Ne.symm nDe), upd_same], fun b o h n => by rw [upd_ne (ne_of_none h hD1), upd_ne n]; exact h, upd_same, .nil⟩ (fun i H' _ ⟨_, q, _⟩ => q) ?_ ?_
    · rintro i ky v q H' hi hq ⟨qs, fw, kp, hD', pq⟩
      obtain ⟨u, hui, rfl⟩ := atW hi
      have hq := k_tup hq
      have std := stdW u (List.mem_of_getElem? hui)
      have hpe : p ≠ e := ne_of_none hp he
      have R' : RulesAt H' dB x.rules := by
        obtain ⟨kv0, h1, h2⟩ := (hR.move s1.t (fun kvs e => s1 _ _ e)).ex
        exact ⟨kv0, kp _ _ h1 nB, Paired.mapP h2 fun kv r ⟨e1, q, e2, e3⟩ => ⟨e1, q, e2, kp _ _ e3 (ne_of e3 hE (by intro q; cases q))⟩⟩
      refine ⟨rfl, ?_⟩
      refine ⟨_, rfl, p, C, dx, _, _, rfl, kp _ _ (s1 _ _ hp) hpe, T.cl, T.nB, isf_b _ _ _, _, rfl, dB, q, x.rules, u, x.k, rfl, R', hq, std.len, wf.k2, wf.k4, wf.keys, fun H2 l ts hl s2 h2 t2 => ?_⟩
      refine ⟨l, _, rfl, .inl (SqL.of h2), rfl, _, rfl, ?_⟩
      have tl : (ts.map V.ref).length = (Uw78.may x.rules u).length := by rw [List.length_map, Paired.length t2, List.length_map]
      rw [tl]
      have tk : (W.take (i + 1)).filter (fun t => (Uw78.may x.rules t).isEmpty) = (W.take i).filter (fun t => (Uw78.may x.rules t).isEmpty) ++ (if (Uw78.may x.rules u).isEmpty = true then [u] else []) := by
        rw [List.take_add_one, hui, List.filter_append]
        congr 1
        show List.filter _ [u] = _
        rw [List.filter_cons]
        split <;> rfl
      have kp2 : ∀ b o, H1 b = some o → b ≠ e → H2 b = some o := fun b o h n => s2 _ _ (kp b o h n)
      by_cases em : (Uw78.may x.rules u).length = 0
      · have em' : (Uw78.may x.rules u).isEmpty = true := List.isEmpty_iff.mpr (List.length_eq_zero_iff.mp em)
        rw [decide_eq_true (show V.int (((Uw78.may x.rules u).length : Nat) : Int) = V.int 0 by rw [em]; rfl)]
        refine iteT ?_
        have ql : qs.length ≤ 120 := by
          have h1 : qs.length = ((W.take i).filter fun t => (Uw78.may x.rules t).isEmpty).length := Paired.length pq
          have h2 : ((W.take i).filter fun t => (Uw78.may x.rules t).isEmpty).length ≤ (W.take i).length := List.length_filter_le _ _
          have h3 : (W.take i).length ≤ W.length := by rw [List.length_take]; exact Nat.min_le_right _ _
          rw [h1]
          refine Nat.le_trans h2 (Nat.le_trans h3 ?_)
          rw [Wl, kl]; exact cl
        refine ⟨_, rfl, _, s2 _ _ hD', (by rw [List.length_map, sizeLine_eq]; omega), qs ++ [q], ?_, ?_, ?_, ?_⟩
        · rw [upd_ne (Ne.symm nDe)]; exact s2 _ _ fw
        · intro b o h n
          rw [upd_ne (ne_of_none h hD1)]; exact kp2 b o h n
        · rw [upd_same, List.map_append]; rfl
        · rw [tk, em', if_pos rfl]
          have t3 : SameT H2 (upd H2 D (.lst (qs.map V.ref ++ [.ref q]))) := fun b xs h => by
            rw [upd_ne (ne_of h (s2 _ _ hD') (by intro q; cases q))]; exact h
          exact Paired.snoc ((pq.same s2.t).same t3) (t3 _ _ (s2 _ _ hq))
      · have em' : (Uw78.may x.rules u).isEmpty = false := by
          cases q : (Uw78.may x.rules u).isEmpty with
          | false => rfl
          | true => exact absurd (List.length_eq_zero_iff.mpr (List.isEmpty_iff.mp q)) em
        rw [decide_eq_false (show ¬ V.int (((Uw78.may x.rules u).length : Nat) : Int) = V.int 0 from fun q => em (by injection q with q; omega))]
        refine iteF ?_
        refine ⟨qs, s2 _ _ fw, kp2, s2 _ _ hD', ?_⟩
        rw [tk, em', if_neg Bool.false_ne_true, List.append_nil]
        exact pq.same s2.t
    · rintro H2 ⟨qs, fw, kp, hD', pq⟩
      refine ⟨fw, ?_⟩
      have s2 : Same H1 (upd H2 e (.dT kvs)) := fun b o h => by
        by_cases n : b = e
        · subst n; rw [upd_same, ← h, hE]
        · rw [upd_ne n]; exact kp b o h n
      have hD2 : (upd H2 e (.dT kvs)) D = some (.lst (qs.map V.ref)) := by rw [upd_ne nDe]; exact hD'
      have t2 : SameT H2 (upd H2 e (.dT kvs)) := fun b xs h => by
        rw [upd_ne (ne_of h fw (by intro q; cases q))]; exact h
      have pq2 := pq.same t2
      generalize upd H2 e (.dT kvs) = H3 at *
      rw [← Wl, List.take_length] at pq2
      have lenR : ∀ u ∈ W.filter (fun t => (Uw78.may x.rules t).isEmpty), u.length = x.k := fun u hu => (stdW u (List.mem_filter.mp hu).1).len
      generalize W.filter (fun t => (Uw78.may x.rules t).isEmpty) = R at *
      have ql : qs.length = R.length := Paired.length pq2
      refine ⟨_, rfl, D, _, rfl, .inl (SqL.of hD2), sl1, fun la hla => ?_⟩
      have s3 : Same H3 (upd H3 la (.lst [.int ((qs.map V.ref).length : Int)])) := Same.new hla
      have A3 : (upd H3 la (.lst [.int ((qs.map V.ref).length : Int)])) la = some (.lst [.int ((qs.map V.ref).length : Int)]) := upd_same
      generalize upd H3 la (.lst [.int ((qs.map V.ref).length : Int)]) = H4 at *
      rw [List.length_map, ql] at A3
      have s14 := s1.trans (s2.trans s3)
      have nla : H la = none := (s1.trans s2).free hla
      refine ⟨_, rfl, D, _, rfl, .inl (SqL.of (s3 _ _ hD2)), _, _, rfl, rfl, _, rfl, ?_⟩
      rw [List.length_map, ql]
      by_cases hz : 0 < R.length
      · rw [decide_eq_true (show (0 : Int) < ((R.length : Nat) : Int) by omega)]
        refine iteT ?_
        have pq3 := pq2.same s3.t
        refine ⟨_, rfl, .inl ⟨rfl, _, SqL.of A3⟩, _, rfl, D, qs, R.map Uw78.ints, rfl, SqL.of (s3 _ _ hD2), std_ints pq3, by omega, fun t ht => ?_⟩
        rw [ql] at ht
        obtain ⟨u, hu1, hu2⟩ := pq3.get ht
        rw [min_first lenR hz] at hu1
        cases hu1
        have ul : (Uw78.firstOf R).length ≤ 4 := by
          rw [lenR _ (List.mem_of_getElem? (min_first lenR hz))]; exact wf.k4
        refine ⟨la, t, _, _, rfl, rfl, A3, SqT.of hu2, (by rw [lv_len, sizeLine_eq]; show 1 + _ ≤ _; omega), ?_⟩
        refine ⟨_, rfl, ?_⟩
        refine same_out hI z e0 (s14.put nla) nla ?_
        rw [upd_same, lv_ints]
        rfl
      · rw [decide_eq_false (show ¬ (0 : Int) < ((R.length : Nat) : Int) by omega)]
        refine iteF ?_
        refine ⟨_, rfl, ?_⟩
        refine same_out hI z e0 s14 nla ?_
        have : R = [] := List.length_eq_zero_iff.mp (by omega)
        rw [A3, this]
        rfl
theorem scKept : FnScope ["self", "m", "rows", "unlike", "answer", "row"] ["self", "m"] (defScope sKept) := ⟨rfl, rfl, rfl, by decide +kernel, rfl, by decide +kernel, by decide +kernel⟩
theorem ok_kept {f C : Addr} {fd : FuncData} (F : Fun K "kept" "Island.kept" sKept f fd) (T : Txt K mg C) (D : Defs K mg) : FnOk P w K mg base CX0 2 f fd ["self", "m"] (spKept C) := by
  obtain ⟨fR, fdR, DR⟩ := D.rows
  obtain ⟨fK, fdK, DK⟩ := D.keptR
  have GR : FnOk P w K mg base CX0 1 fR fdR ["colours", "m"] spRows := ok_rows DR.fn T.b
  have GK : FnOk P w K mg base CX0 1 fK fdK ["becomes", "weights", "m"] spKeptR := ok_keptR DK.fn
  obtain ⟨_, mL⟩ := T.least
  obtain ⟨_, mG⟩ := T.greatest
  obtain ⟨_, mN⟩ := T.noSuch
  refine F.ok scKept (fun vs H Q E h => ?_) (fun cdv A outer s H vs Q E hr h => ?_)
  · obtain ⟨_, _, rfl, _⟩ := h
    rfl
  · obtain ⟨p, m, rfl, x, hI, wf, z⟩ := h
    obtain ⟨dx, dB, sB, hp, hR, hS⟩ := hI.ex
    refine ⟨_, pss_cons (ps_if (PW.pt (pw_or (pt_cmpR op_lt (pv 1) (pe_glob rfl mL (v := .int 2) ⟨_, rfl⟩) (nomark _)) (pw_or1 (pt_cmpR op_gt (pv 1) (pe_glob rfl mG (v := .int 9) ⟨_, rfl⟩) (nomark _)))))
        (pss_one (ps_ret (pe_lst (pa_cons (pe_glob rfl mN (v := .int (-1)) ⟨_, rfl⟩) pa_nil)))) pss_nil)
      (pss_cons (ps_setLc (i := 2) (own := [("row", 5)]) (tt := tB (tCall spKeptR [] E0 (tCons (tFld K (tVar 0) "becomes") (tCons (tVar 5) (tCons (tVar 1) tNil))))) rfl scKept.nd rfl rfl (sw_true rfl rfl rfl rfl) (pi_list (pe_call GR hr rfl DR.m DR.fn.kp DR.b .nil pass0 (pa_cons (pe_fld (pv 0) rfl) (pa_cons (pv 1) pa_nil)))) bkKept1
        (fun _ _ _ _ _ => pg_name (i := 5) scKept.nd rfl (Or.inl rfl))
        (fun _ _ _ _ _ => pts_one (pt_val (pe_call GK hr rfl DK.m DK.fn.kp DK.b .nil pass0 (pa_cons (pe_fld (pv 0) rfl) (pa_cons (pv 5) (pa_cons (pv 1) pa_nil))))))
        (fun _ _ _ _ _ => pv 5))
      (pss_cons (ps_setLc (i := 3) (own := [("row", 5)]) (tt := tTest (tOp rNe (tCB (rMinT K) (tCons (tVar 5) tNil)) (tCB (rMaxT K) (tCons (tVar 5) tNil)))) rfl scKept.nd rfl rfl (sw_true rfl rfl rfl rfl) (pi_list (pv 2)) bkKept2
        (fun _ _ _ _ _ => pg_name (i := 5) scKept.nd rfl (Or.inl rfl))
        (fun _ _ _ _ _ => pts_one (pt_cmpR op_ne (pe_callB (cr_minT rfl) (by rfl) T.b.min PyProof.Rows.boot_min (pa_cons (pv 5) pa_nil)) (pe_callB (cr_maxT rfl) (by rfl) T.b.max PyProof.Rows.boot_max (pa_cons (pv 5) pa_nil)) (nomark _)))
        (fun _ _ _ _ _ => pv 5))
      (pss_cons (ps_set (i := 4) scKept.nd rfl (Or.inl rfl) (pe_lst (pa_cons (pe_callB call_len_seq (by rfl) T.b.len PySem.boot_len (pa_cons (pv 2) pa_nil)) pa_nil)))
      (pss_cons (ps_if (pt_cmpR op_gt (pe_callB call_len_seq (by rfl) T.b.len PySem.boot_len (pa_cons (pv 3) pa_nil)) pe_int (nomark _))
        (pss_one (ps_expr (pe_bm PySem.F.plainAttrs_list PySem.F.slot_list_extend PySem.F.type_list_extend mt_extendT (pv 4) (pa_cons (pe_ix ix_list (pv 3) pe_int (fun _ _ => rfl)) pa_nil)))) pss_nil)
      (pss_one (ps_ret (pv 4))))))), ?_⟩
    refine ⟨_, rfl, _, _, rfl, rfl, _, rfl, ?_⟩
    refine ite2 (fun h => iteT ?_) (fun h => ⟨_, rfl, _, _, rfl, rfl, _, rfl, ite2 (fun h' => ?_) (fun h' => ?_)⟩)
    · have hm : m < 2 := by have := of_decide_eq_true h; omega
      have e0 : Uw78.step x (.kept m) = (x, [-1]) := by
        show (x, if m < 2 ∨ 9 < m then [-1] else _) = _
        rw [if_pos (.inl hm)]
      exact ⟨sl1, fun l hl => refuse hI z e0 (Same.refl H) hl⟩
    · have hm : 9 < m := by have := of_decide_eq_true h'; omega
      have e0 : Uw78.step x (.kept m) = (x, [-1]) := by
        show (x, if m < 2 ∨ 9 < m then [-1] else _) = _
        rw [if_pos (.inr hm)]
      exact ⟨sl1, fun l hl => refuse hI z e0 (Same.refl H) hl⟩
    have m2 : 2 ≤ m := by have q : ¬ ((m : Int) < 2) := fun q => h (decide_eq_true q); omega
    have m9 : m ≤ 9 := by have q : ¬ ((9 : Int) < (m : Int)) := fun q => h' (decide_eq_true q); omega
    have e0 : Uw78.step x (.kept m) = (x, (((Uw78.rows m x.k).filter (Uw78.isKept x.rules m)).length : Int) :: Uw78.ints ((((Uw78.rows m x.k).filter (Uw78.isKept x.rules m)).find? fun w => !Uw78.areAlike w).getD [])) := by
      show (x, if m < 2 ∨ 9 < m then [-1] else _) = _
      rw [if_neg (by omega)]
      rfl
    refine ⟨_, rfl, p, C, dx, _, _, rfl, hp, T.cl, T.nC, isf_c _ _ _, _, rfl, x.k, m, rfl, wf.k4, m9, fun H1 l ts hl s1 h1 p1 => ⟨l, rfl, ⟨_, SqL.of h1⟩, fun D hD => ?_⟩⟩
    have rl := Ch.rows_small (m := m) (n := x.k) m9 wf.k4
    have tl : ts.length = (Uw78.rows m x.k).length := Paired.length p1
    have rk : ∀ r ∈ Uw78.rows m x.k, r.length = x.k := fun r hr => (Ch.mem_rows hr).1
    generalize Uw78.rows m x.k = RW at *
    refine lc_list (K := K) (a := l) (xs := ts.map V.ref) (fun i H' => ∃ qs : List Addr, Same H1 H' ∧ H' D = some (.lst (qs.map V.ref)) ∧ StdsAt H' qs ((RW.take i).filter (Uw78.isKept x.rules m)))
      ⟨[], Same.new hD, upd_same, .nil⟩ (fun i H' _ ⟨_, s2, _⟩ => SqL.of (s2 _ _ h1)) ?_ ?_
    · rintro i y H' hi ⟨qs, s2, hD', pq⟩
      rw [List.getElem?_map] at hi
      cases et : ts[i]? with
      | none => rw [et] at hi; cases hi
      | some t =>
        rw [et] at hi
        cases hi
        obtain ⟨r, hr1, htr⟩ := p1.get et
        have rlen := rk r (List.mem_of_getElem? hr1)
        have s02 := s1.trans s2
        refine ⟨rfl, ?_⟩
        refine ⟨_, rfl, p, C, dx, _, _, rfl, s02 _ _ hp, T.cl, T.nB, isf_b _ _ _, _, rfl, _, rfl, dB, t, x.rules, r, m, rfl, hR.move s02.t (fun kvs e => s02 _ _ e), s2 _ _ htr, (fun ru hru => by rw [rlen]; exact wf.ok.lt ru hru), by omega, fun H3 s3 => ?_⟩
        refine ⟨_, rfl, ?_⟩
        have tk : (RW.take (i + 1)).filter (Uw78.isKept x.rules m) = (RW.take i).filter (Uw78.isKept x.rules m) ++ (if Uw78.isKept x.rules m r = true then [r] else []) := by
          rw [List.take_add_one, hr1, List.filter_append]
          congr 1
          show List.filter _ [r] = _
          rw [List.filter_cons]
          split <;> rfl
        cases ek : Uw78.isKept x.rules m r with
        | false =>
          refine iteF ?_
          refine ⟨qs, s2.trans s3, s3 _ _ hD', ?_⟩
          rw [tk, ek, if_neg Bool.false_ne_true, List.append_nil]
          exact pq.same s3.t
        | true =>
          refine iteT ?_
          have ql : qs.length ≤ 6561 := by
            have q1 := Paired.length pq
            have q2 := List.length_filter_le (Uw78.isKept x.rules m) (RW.take i)
            rw [List.length_take] at q2
            omega
          refine ⟨_, rfl, _, s3 _ _ hD', (by rw [List.length_map, sizeLine_eq]; omega), qs ++ [t], (s2.trans s3).put hD, by rw [upd_same, List.map_append]; rfl, ?_⟩
          rw [tk, ek, if_pos rfl]
          have t4 : SameT H3 (upd H3 D (.lst (qs.map V.ref ++ [.ref t]))) := fun b xs h => by
            rw [upd_ne (ne_of h (s3 _ _ hD') (by intro q; cases q))]; exact h
          exact Paired.snoc ((pq.same s3.t).same t4) (t4 _ _ (s3 _ _ (s2 _ _ htr)))
    · rintro H2 ⟨qs, s2, hD2, pq⟩
      rw [List.length_map, tl, List.take_length] at pq
      have kk' : ∀ r ∈ RW.filter (Uw78.isKept x.rules m), r.length = x.k := fun r hr => rk r (List.mem_filter.mp hr).1
      have kl : (RW.filter (Uw78.isKept x.rules m)).length ≤ 6561 := Nat.le_trans (List.length_filter_le _ _) rl
      generalize RW.filter (Uw78.isKept x.rules m) = KR at *
      have ql : qs.length = KR.length := Paired.length pq
      have s02 := s1.trans s2
      refine ⟨_, rfl, D, rfl, ⟨_, SqL.of hD2⟩, fun D2 hDD => ?_⟩
      refine lc_list (K := K) (a := D) (xs := qs.map V.ref) (fun i H' => ∃ us : List Addr, Same H2 H' ∧ H' D2 = some (.lst (us.map V.ref)) ∧ StdsAt H' us ((KR.take i).filter fun w => !Uw78.areAlike w))
        ⟨[], Same.new hDD, upd_same, .nil⟩ (fun i H' _ ⟨_, s3, _⟩ => SqL.of (s3 _ _ hD2)) ?_ ?_
      · rintro i y H' hi ⟨us, s3, hD', pu⟩
        rw [List.getElem?_map] at hi
        cases et : qs[i]? with
        | none => rw [et] at hi; cases hi
        | some t =>
          rw [et] at hi
          cases hi
          obtain ⟨r, hr1, htr⟩ := pq.get et
          have rlen := kk' r (List.mem_of_getElem? hr1)
          have k2 := wf.k2
          refine ⟨rfl, ?_⟩
          refine ⟨_, rfl, t, Uw78.ints r, rfl, sqT (s3 _ _ htr), by rw [ints_len]; omega, fun lo hlo hlo2 => ?_⟩
          refine ⟨_, rfl, t, Uw78.ints r, rfl, sqT (s3 _ _ htr), by rw [ints_len]; omega, fun hi' hhi hhi2 => ?_⟩
          refine ⟨rfl, _, rfl, ?_⟩
          obtain ⟨a, ha, rfl⟩ := List.mem_map.mp hlo
          obtain ⟨b, hb, rfl⟩ := List.mem_map.mp hhi
          have al : Uw78.areAlike r = decide (a = b) := Ch.alike_iff ha (fun y hy => by
            have := hlo2 (y : Int) (List.mem_map.mpr ⟨y, hy, rfl⟩); omega) hb (fun y hy => by
            have := hhi2 (y : Int) (List.mem_map.mpr ⟨y, hy, rfl⟩); omega)
          have ed : decide (V.int (a : Int) = V.int (b : Int)) = Uw78.areAlike r := by
            rw [al, decide_eq_decide]
            constructor
            · intro q; injection q with q; omega
            · intro q; rw [q]
          rw [ed]
          have tk : (KR.take (i + 1)).filter (fun w => !Uw78.areAlike w) = (KR.take i).filter (fun w => !Uw78.areAlike w) ++ (if (!Uw78.areAlike r) = true then [r] else []) := by
            rw [List.take_add_one, hr1, List.filter_append]
            congr 1
            show List.filter _ [r] = _
            rw [List.filter_cons]
            split <;> rfl
          cases ek : Uw78.areAlike r with
          | true =>
            refine iteF ?_
            refine ⟨us, s3, hD', ?_⟩
            rw [tk, ek, if_neg (by decide), List.append_nil]
            exact pu
          | false =>
            refine iteT ?_
            have ul : us.length ≤ 6561 := by
              have q1 := Paired.length pu
              have q2 := List.length_filter_le (fun w => !Uw78.areAlike w) (KR.take i)
              rw [List.length_take] at q2
              omega
            refine ⟨_, rfl, _, hD', (by rw [List.length_map, sizeLine_eq]; omega), us ++ [t], s3.put hDD, by rw [upd_same, List.map_append]; rfl, ?_⟩
            rw [tk, ek, if_pos (by decide)]
            have t4 : SameT H' (upd H' D2 (.lst (us.map V.ref ++ [.ref t]))) := fun b xs h => by
              rw [upd_ne (ne_of h hD' (by intro q; cases q))]; exact h
            exact Paired.snoc (pu.same t4) (t4 _ _ (s3 _ _ htr))
      · rintro H3 ⟨us, s3, hD3, pu⟩
        rw [List.length_map, ql, List.take_length] at pu
        have ef := Ch.find_filter (fun w => !Uw78.areAlike w) KR
        rw [← ef] at e0
        have uk : ∀ r ∈ KR.filter (fun w => !Uw78.areAlike w), r.length = x.k := fun r hr => kk' r (List.mem_filter.mp hr).1
        generalize KR.filter (fun w => !Uw78.areAlike w) = UR at *
        have ul : us.length = UR.length := Paired.length pu
        refine ⟨_, rfl, D, _, rfl, .inl (SqL.of (s3 _ _ hD2)), sl1, fun la hla => ?_⟩
        have s4 : Same H3 (upd H3 la (.lst [.int ((qs.map V.ref).length : Int)])) := Same.new hla
        have A4 : (upd H3 la (.lst [.int ((qs.map V.ref).length : Int)])) la = some (.lst [.int ((qs.map V.ref).length : Int)]) := upd_same
        generalize upd H3 la (.lst [.int ((qs.map V.ref).length : Int)]) = H4 at *
        rw [List.length_map, ql] at A4
        have s04 := s02.trans (s3.trans s4)
        have nla : H la = none := (s02.trans s3).free hla
        refine ⟨_, rfl, D2, _, rfl, .inl (SqL.of (s4 _ _ hD3)), _, _, rfl, rfl, _, rfl, ?_⟩
        rw [List.length_map, ul]
        by_cases hz : 0 < UR.length
        · rw [decide_eq_true (show (0 : Int) < ((UR.length : Nat) : Int) by omega)]
          refine iteT ?_
          have h0 : us[0]? = some us[0] := List.getElem?_eq_getElem (by omega)
          generalize us[0] = t at h0
          obtain ⟨r, hr1, htr⟩ := pu.get h0
          have rlen := uk r (List.mem_of_getElem? hr1)
          have k4 := wf.k4
          refine ⟨_, rfl, .inl ⟨rfl, _, SqL.of A4⟩, _, rfl, D2, _, _, _, rfl, rfl, SqL.of (s4 _ _ hD3), atI_nat (j := 0) (by rw [List.getElem?_map, h0]; rfl), ?_⟩
          refine ⟨la, t, _, _, rfl, rfl, A4, SqT.of (s4 _ _ htr), (by rw [lv_len, sizeLine_eq]; show 1 + _ ≤ _; omega), ?_⟩
          refine ⟨_, rfl, ?_⟩
          refine same_out hI z e0 (s04.put nla) nla ?_
          rw [upd_same, lv_ints, hr1]
          rfl
        · rw [decide_eq_false (show ¬ (0 : Int) < ((UR.length : Nat) : Int) by omega)]
          refine iteF ?_
          refine ⟨_, rfl, ?_⟩
          refine same_out hI z e0 s04 nla ?_
          have : UR = [] := List.length_eq_zero_iff.mp (by omega)
          rw [A4, this]
          rfl
end
end Isl

end

section
set_option Elab.async false
set_option linter.all false
set_option maxRecDepth 100000
set_option maxHeartbeats 4000000
namespace Ch
theorem enc_cons (c : Uw78.Call) : ∃ n r, enc c = n :: r := by
  cases c <;> exact ⟨_, _, rfl⟩
/-- a call's numbers behind its own -/
theorem cut_enc {α : Type} {pre r post : List α} {n : α} : (((pre ++ (n :: r) ++ post).drop (pre.length + 1)).take (pre.length + (n :: r).length - (pre.length + 1))) = r := by
  have e : (pre ++ (n :: r) ++ post).drop (pre.length + 1) = r ++ post := by
    rw [List.append_assoc, List.drop_append]
    rw [List.drop_eq_nil_of_le (by omega), List.nil_append]
    rw [show pre.length + 1 - pre.length = 1 by omega]
    rfl
  rw [e, show pre.length + (n :: r).length - (pre.length + 1) = r.length by simp only [List.length_cons]; omega]
  exact List.take_left
end Ch
namespace Isl
open PySem PySem.Spec PyProof.Rows L2
theorem Keep.seq {K : PySem.W.Frag} {p C dx : Addr} {H H' : Hp} {a : Addr} {xs : List V} {fs : List (Str × V)} (k : Keep p H H') (hp : H p = some (.ins C dx fs)) (h : SqL K H a xs) : SqL K H' a xs := by
  rcases h with (h | ⟨o, h⟩) | h
  · exact .inl (.inl (k _ _ h (ne_of h hp (by intro q; cases q)) (by intro _ q; cases q)))
  · exact .inl (.inr ⟨o, k _ _ h (ne_of h hp (by intro q; cases q)) (by intro _ q; cases q)⟩)
  · exact .inr h
/-- end_of_call's: where the call that begins at this place ends -/
def spEnd (K : PySem.W.Frag) : Sp := fun vs H Q _ => ∃ (a : Addr) (pre post : List Int) (c : Uw78.Call), vs = [.ref a, iv pre.length] ∧ SqL K H a ((pre ++ Ch.enc c ++ post).map V.int) ∧ ∀ H' : Hp, Same H H' → Q (iv (pre.length + (Ch.enc c).length)) H'
/-- answer_to's -/
def spAnsTo (C : Addr) : Sp := fun vs H Q _ => ∃ (p t : Addr) (c : Uw78.Call) (n : Int) (r : List Int), vs = [.ref p, .int n, .ref t] ∧ Ch.enc c = n :: r ∧ H t = some (.lst (r.map V.int)) ∧ Does C c p H Q
theorem cut_call {pre post : List Int} {c : Uw78.Call} {n : Int} {r : List Int} (e : Ch.enc c = n :: r) : cutV ((pre ++ Ch.enc c ++ post).map V.int) (some ((pre.length : Int) + 1)) (some ((pre.length + (Ch.enc c).length : Nat) : Int)) = r.map V.int := by
  unfold cutV
  rw [show (pre.length : Int) + 1 = ((pre.length + 1 : Nat) : Int) by omega, HT.sIx_nat, HT.sIx_nat]
  have hl : ((pre ++ Ch.enc c ++ post).map V.int).length = pre.length + (Ch.enc c).length + post.length := by
    rw [List.length_map, List.length_append, List.length_append]
  have h1 : 1 ≤ (Ch.enc c).length := by rw [e]; simp
  rw [hl, Nat.min_eq_left (by omega), Nat.min_eq_left (by omega), ← List.map_drop, ← List.map_take, e]
  rw [Ch.cut_enc]
theorem run_cons (x : Uw78.Island) (c : Uw78.Call) (cs : List Uw78.Call) : Ch.run x (c :: cs) = ((Uw78.step x c).2.length : Int) :: (Uw78.step x c).2 ++ Ch.run (Uw78.step x c).1 cs := rfl
def spAns (K : PySem.W.Frag) : Sp := fun vs H Q _ => ∃ (a : Addr) (ns : List Int), vs = [.ref a] ∧ SqL K H a (ns.map V.int) ∧ (∀ b kvs, H b ≠ some (.dT kvs)) ∧ PyUw78.answers_asked ns = true ∧ ∀ (H' : Hp) (p : Addr), H' p = some (.lst ((PyUw78.answers ns).map V.int)) → Q (.ref p) H'
section
variable {P : Program} {w : World} {K : PySem.W.Frag} {mg : Str → Option Value} {base : Heap}
theorem scAns : FnScope ["calls", "island", "given", "at", "end", "answer"] ["calls"] (defScope sAns) := ⟨rfl, rfl, rfl, by decide +kernel, rfl, by decide +kernel, by decide +kernel⟩
theorem ok_ans {f C fI fE fT : Addr} {fd fdI fdE fdT : FuncData} {k : Nat} (hk : 5 ≤ k) (F : Fun K "answers" "answers" sAns f fd) (T : Txt K mg C) (M : Mk K C fI) (FI : Fun K "__init__" "Island.__init__" sInit fI fdI) (bI : Binds K fdI ["self"] []) (GI : FnOk P w K mg base CX0 4 fI fdI ["self"] (spInit C))
    (DE : Def K mg "end_of_call" sEnd ["calls", "at"] fE fdE) (GE : FnOk P w K mg base CX0 1 fE fdE ["calls", "at"] (spEnd K)) (DT : Def K mg "answer_to" sAnsTo ["island", "number", "told"] fT fdT) (GT : FnOk P w K mg base CX0 k fT fdT ["island", "number", "told"] (spAnsTo C)) :
    FnOk P w K mg base CX0 (k + 1) f fd ["calls"] (spAns K) := by
  refine F.ok scAns (fun vs H Q E h => ?_) (fun cdv A outer s H vs Q E hr h => ?_)
  · obtain ⟨_, _, rfl, _⟩ := h
    rfl
  · obtain ⟨a, ns, rfl, hS, hD, hask, z⟩ := h
    obtain ⟨xs, rfl, hrun, hlen⟩ := Ch.asked_inv hask
    rw [hrun] at z hlen
    refine ⟨_, pss_cons (ps_set (i := 1) scAns.nd rfl (Or.inl rfl) (pe_make0 M GI (hr.mono hk) rfl T.mgC bI .nil pass0))
      (pss_cons (ps_set (i := 2) scAns.nd rfl (Or.inl rfl) (pe_lst pa_nil))
      (pss_cons (ps_set (i := 3) scAns.nd rfl (Or.inl rfl) pe_int)
      (pss_cons (ps_while PassesOwn.never (pt_cmpR op_lt (pv 3) (pe_callB call_len_seq (by rfl) T.b.len PySem.boot_len (pa_cons (pv 0) pa_nil)) (nomark _))
        (pss_cons (ps_set (i := 4) scAns.nd rfl (Or.inl rfl) (pe_call GE (hr.mono (Nat.le_trans (by decide) hk)) rfl DE.m DE.fn.kp DE.b .nil pass0 (pa_cons (pv 0) (pa_cons (pv 3) pa_nil))))
        (pss_cons (ps_set (i := 5) scAns.nd rfl (Or.inl rfl) (pe_call GT hr rfl DT.m DT.fn.kp DT.b .nil pass0 (pa_cons (pv 1) (pa_cons (pe_ix ix_list (pv 0) (pv 3) (fun _ _ => rfl)) (pa_cons (pe_slice sl_list (pv 0) (po_some (pe_op op_add (pv 3) pe_int)) (po_some (pv 4))) pa_nil)))))
        (pss_cons (ps_expr (pe_bm PySem.F.plainAttrs_list PySem.F.slot_list_append PySem.F.type_list_append mt_append (pv 2) (pa_cons (pe_callB call_len_seq (by rfl) T.b.len PySem.boot_len (pa_cons (pv 5) pa_nil)) pa_nil)))
        (pss_cons (ps_expr (pe_bm PySem.F.plainAttrs_list PySem.F.slot_list_extend PySem.F.type_list_extend mt_extend (pv 2) (pa_cons (pv 5) pa_nil)))
        (pss_one (ps_set (i := 3) scAns.nd rfl (Or.inl rfl) (pv 4))))))))
      (pss_one (ps_ret (pv 2)))))), ?_⟩
    intro p dp np ndp nep
    refine ⟨p, dp, rfl, upd_same, fun H1 I1 k1 => ⟨rfl, ?_⟩⟩
    have s1 : Same H H1 := Same.made np ndp k1
    refine ⟨Nat.zero_le _, fun g hg => ?_⟩
    have s2 : Same H1 (upd H1 g (.lst [])) := Same.new hg
    refine ⟨fun m σ H' => ∃ (dn rs : List Uw78.Call) (x : Uw78.Island) (out : List Int) (v4 v5 : Option V), m = rs.length ∧ xs = dn ++ rs ∧ σ = [some (.ref a), some (.ref p), some (.ref g), some (iv (dn.flatMap Ch.enc).length), v4, v5] ∧
        IslAt C H' p x ∧ Ch.Wf x ∧ H' g = some (.lst (out.map V.int)) ∧ Same H H' ∧ Ch.run Uw78.init xs = out ++ Ch.run x rs,
      ⟨xs.length, [], xs, Uw78.init, [], none, none, rfl, rfl, rfl, I1.same s2, Ch.wf_init, upd_same, s1.trans s2, rfl⟩, ?_⟩
    rintro m σ H' ⟨dn, rs, x, out, v4, v5, rfl, exs, rfl, hI, wf, hG, sH, er⟩
    have hA := sH.seq hS
    refine ⟨_, rfl, _, rfl, a, _, rfl, .inl hA, _, _, rfl, rfl, _, rfl, ?_⟩
    cases rs with
    | nil =>
      rw [List.append_nil] at exs
      subst exs
      rw [List.length_map, decide_eq_false (Int.lt_irrefl _)]
      refine iteF ?_
      refine ⟨_, rfl, ?_⟩
      have e : Ch.run Uw78.init xs = out := by rw [er]; exact List.append_nil _
      exact z _ g (by rw [hG, e])
    | cons c cs =>
      obtain ⟨n, r, en⟩ := Ch.enc_cons c
      have ens : xs.flatMap Ch.enc = dn.flatMap Ch.enc ++ Ch.enc c ++ cs.flatMap Ch.enc := by
        rw [exs, List.flatMap_append, List.flatMap_cons, List.append_assoc]
      have hlt : (dn.flatMap Ch.enc).length < (xs.flatMap Ch.enc).length := by
        rw [ens, List.length_append, List.length_append, en]; simp only [List.length_cons]; omega
      rw [List.length_map, decide_eq_true (show ((dn.flatMap Ch.enc).length : Int) < ((xs.flatMap Ch.enc).length : Int) by omega)]
      refine iteT ⟨_, fun σ' H' h => h, ?_⟩
      have hA2 : SqL K H' a ((dn.flatMap Ch.enc ++ Ch.enc c ++ cs.flatMap Ch.enc).map V.int) := by rw [← ens]; exact hA
      have hat : ((dn.flatMap Ch.enc ++ Ch.enc c ++ cs.flatMap Ch.enc).map V.int)[(dn.flatMap Ch.enc).length]? = some (.int n) := by
        rw [List.getElem?_map, en, List.append_assoc, List.getElem?_append_right (Nat.le_refl _), Nat.sub_self]
        rfl
      refine ⟨_, rfl, _, rfl, a, dn.flatMap Ch.enc, cs.flatMap Ch.enc, c, rfl, hA2, fun H' s0 => ?_⟩
      replace hA2 := s0.seq hA2
      replace hI := hI.same s0
      replace hG := s0 _ _ hG
      replace sH := sH.trans s0
      refine ⟨_, rfl, _, rfl, _, rfl, a, _, _, _, rfl, rfl, hA2, atI_nat hat, _, rfl, _, rfl, _, _, rfl, rfl, _, rfl, _, rfl, _, rfl, a, _, rfl, hA2, fun t ht => ?_⟩
      rw [cut_call en]
      have s3 : Same H' (upd H' t (.lst (r.map V.int))) := Same.new ht
      have ht2 : (upd H' t (.lst (r.map V.int))) t = some (.lst (r.map V.int)) := upd_same
      generalize upd H' t (.lst (r.map V.int)) = H2 at *
      refine ⟨p, t, c, n, r, rfl, en, ht2, x, hI.same s3, wf, fun H3 l hI3 kp so hl h3 => ?_⟩
      obtain ⟨dx2, dB2, sB2, hp2, _, _⟩ := (hI.same s3).ex
      have hG2 := s3 _ _ hG
      have hG3 := kp g _ hG2 (ne_of hG2 hp2 (by intro q; cases q)) (by intro _ q; cases q)
      have ngl : l ≠ g := fun e => by subst e; rw [hG2] at hl; cases hl
      have er2 : Ch.run Uw78.init xs = (out ++ ((Uw78.step x c).2.length : Int) :: (Uw78.step x c).2) ++ Ch.run (Uw78.step x c).1 cs := by
        rw [er, run_cons, List.append_assoc]
      have tot : out.length + 1 + (Uw78.step x c).2.length ≤ 10000000 := by
        have := hlen
        rw [er2, List.length_append, List.length_append, List.length_cons] at this
        omega
      refine ⟨_, rfl, .inl ⟨rfl, _, SqL.of hG3⟩, _, rfl, l, _, rfl, .inl (SqL.of h3), g, _, _, rfl, rfl, hG3, (by rw [List.length_map, sizeLine_eq]; omega), ?_⟩
      have h4 : (upd H3 g (.lst (out.map V.int ++ [.int (((Uw78.step x c).2.map V.int).length : Int)]))) l = some (.lst ((Uw78.step x c).2.map V.int)) := by rw [upd_ne ngl]; exact h3
      refine ⟨_, rfl, .inl ⟨rfl, _, SqL.of upd_same⟩, _, rfl, g, l, _, _, rfl, rfl, upd_same, h4, (by rw [List.length_append, List.length_map, List.length_map, List.length_singleton, sizeLine_eq]; omega), ?_⟩
      obtain ⟨dx3, dB3, sB3, hp3, hR3, hS3⟩ := hI3.ex
      have ngp : p ≠ g := fun e => by subst e; rw [hp3] at hG3; cases hG3
      have sg : ∀ b o, H3 b = some o → b ≠ g → upd (upd H3 g (.lst (out.map V.int ++ [.int (((Uw78.step x c).2.map V.int).length : Int)]))) g (.lst (out.map V.int ++ [.int (((Uw78.step x c).2.map V.int).length : Int)] ++ (Uw78.step x c).2.map V.int)) b = some o := fun b o e n => by
        rw [upd_upd, upd_ne n]; exact e
      refine ⟨_, rfl, cs.length, Nat.lt_succ_self _, dn ++ [c], cs, (Uw78.step x c).1, _, some (iv ((dn.flatMap Ch.enc).length + (Ch.enc c).length)), some (.ref l), rfl, by rw [exs, List.append_assoc]; rfl, ?_, ?_, Ch.wf_step wf c, ?_, ?_, er2⟩
      · rw [List.flatMap_append, List.length_append]
        show _ = [some (V.ref a), some (.ref p), some (.ref g), some (iv ((dn.flatMap Ch.enc).length + (Ch.enc c ++ []).length)), _, _]
        rw [List.append_nil]
        rfl
      · refine ⟨dx3, dB3, sB3, sg _ _ hp3 ngp, hR3.move (fun b xs e => sg _ _ e (ne_of e hG3 (by intro q; cases q))) (fun kvs e => sg _ _ e (ne_of e hG3 (by intro q; cases q))), ?_⟩
        exact sg _ _ hS3 (ne_of hS3 hG3 (by intro q; cases q))
      · rw [upd_same, List.map_append, List.map_cons, List.length_map, List.append_assoc]
        rfl
      · intro b o e
        have e2 := kp b o (s3 _ _ (sH b o e)) (fun q => by subst q; rw [np] at e; cases e) (fun kvs q => by subst q; exact hD b kvs e)
        exact sg _ _ e2 (ne_of_none (s1 _ _ e) hg)
end
end Isl

end

section
set_option Elab.async false
set_option linter.all false
set_option maxRecDepth 100000
set_option maxHeartbeats 4000000
namespace Ch
/-- a call's own number, and how many whole numbers stand behind it -/
def num : Uw78.Call → Nat
  | .begins _ => 0
  | .rule _ _ _ _ => 1
  | .old => 2
  | .are _ => 3
  | .meet _ _ => 4
  | .may => 5
  | .to _ => 6
  | .one _ => 7
  | .comes => 8
  | .rests => 9
  | .always _ => 10
  | .kept _ => 11
def nb : Uw78.Call → Nat
  | .begins _ => 1
  | .rule _ _ _ _ => 4
  | .old => 0
  | .are _ => 1
  | .meet _ _ => 2
  | .may => 0
  | .to _ => 1
  | .one _ => 1
  | .comes => 0
  | .rests => 0
  | .always _ => 1
  | .kept _ => 1
theorem enc_num (c : Uw78.Call) : ∃ r, enc c = (num c : Int) :: r := by cases c <;> exact ⟨_, rfl⟩
end Ch
namespace Isl
open PySem PySem.Spec PyProof.Rows L2
def nbs : List Nat := [1, 4, 0, 1, 2, 0, 1, 1, 0, 0, 1, 1]
theorem nb_at (c : Uw78.Call) : (lv nbs)[Ch.num c]? = some (iv (Ch.nb c)) := by cases c <;> rfl
theorem neI {n m : Int} {A B : Prop} (h : ¬ n = m) (b : B) : if decide (V.int n = V.int m) = true then A else B := by
  rw [decide_eq_false (fun q => h (by injection q))]
  exact iteF b
theorem eqI {n m : Int} {A B : Prop} (h : n = m) (a : A) : if decide (V.int n = V.int m) = true then A else B := by
  rw [decide_eq_true (by rw [h])]
  exact iteT a
/-- the numbers of the calls, as the top binds them -/
structure Nums (K : PySem.W.Frag) (mg : Str → Option Value) : Prop where
  begins : Num mg "BEGINS" 0
  rule : Num mg "RULE" 1
  old : Num mg "OLD" 2
  are : Num mg "ARE" 3
  meet : Num mg "MEET" 4
  may : Num mg "MAY" 5
  to : Num mg "TO" 6
  one : Num mg "ONE" 7
  comes : Num mg "COMES" 8
  rests : Num mg "RESTS" 9
  always : Num mg "ALWAYS" 10
  nb : ∃ a, mg "NUMBERS_BEHIND" = some (.ref a) ∧ ∀ H, SqT K H a (lv nbs)
section
variable {P : Program} {w : World} {K : PySem.W.Frag} {mg : Str → Option Value} {base : Heap}
theorem scEnd : FnScope ["calls", "at", "end"] ["calls", "at"] (defScope sEnd) := ⟨rfl, rfl, rfl, by decide +kernel, rfl, by decide +kernel, by decide +kernel⟩
theorem ok_end {f : Addr} {fd : FuncData} (F : Fun K "end_of_call" "end_of_call" sEnd f fd) (N : Nums K mg) : FnOk P w K mg base CX0 1 f fd ["calls", "at"] (spEnd K) := by
  obtain ⟨aN, mB, hB⟩ := N.nb
  obtain ⟨_, m3⟩ := N.are
  obtain ⟨_, m6⟩ := N.to
  obtain ⟨_, m10⟩ := N.always
  refine F.ok scEnd (fun vs H Q E h => ?_) (fun cdv A outer s H vs Q E hr h => ?_)
  · obtain ⟨_, _, _, _, rfl, _⟩ := h
    rfl
  · obtain ⟨a, pre, post, c, rfl, hS, z⟩ := h
    refine ⟨_, pss_cons (ps_set (i := 2) scEnd.nd rfl (Or.inl rfl) (pe_op op_add (pe_op op_add (pv 1) pe_int) (pe_ix ix_tup (pe_glob rfl mB (v := .ref aN) rfl) (pe_ix ix_list (pv 0) (pv 1) (fun _ _ => rfl)) (fun _ _ => rfl))))
      (pss_cons (ps_if (pt_cmpR op_in_seq (pe_ix ix_list (pv 0) (pv 1) (fun _ _ => rfl)) (pe_tup (pa_cons (pe_glob rfl m3 (v := .int 3) ⟨_, rfl⟩) (pa_cons (pe_glob rfl m6 (v := .int 6) ⟨_, rfl⟩) (pa_cons (pe_glob rfl m10 (v := .int 10) ⟨_, rfl⟩) pa_nil)))) rfl)
        (pss_one (ps_aug (i := 2) scEnd.nd rfl (Or.inl rfl) (pe_ix ix_list (pv 0) (pe_op op_add (pv 1) pe_int) (fun _ _ => rfl)) ip_add)) pss_nil)
      (pss_one (ps_ret (pv 2)))), ?_⟩
    obtain ⟨r, en⟩ := Ch.enc_num c
    have hat : ((pre ++ Ch.enc c ++ post).map V.int)[pre.length]? = some (iv (Ch.num c)) := by
      rw [List.getElem?_map, en, List.append_assoc, List.getElem?_append_right (Nat.le_refl _), Nat.sub_self]
      rfl
    refine ⟨_, rfl, _, _, rfl, rfl, _, rfl, _, rfl, a, _, _, _, rfl, rfl, hS, atI_nat hat, aN, _, _, _, rfl, rfl, hB H, atI_nat (nb_at c), _, _, rfl, rfl, ?_⟩
    refine ⟨_, rfl, _, rfl, a, _, _, _, rfl, rfl, hS, atI_nat hat, (by show 3 ≤ sizeLine; decide), fun t ht => ?_⟩
    have s1 : Same H (upd H t (.tup [.int 3, .int 6, .int 10])) := Same.new ht
    refine ⟨t, _, rfl, .inr (SqT.of upd_same), rfl, rfl, _, rfl, ?_⟩
    have plain : inV (iv (Ch.num c)) [.int 3, .int 6, .int 10] = false → (Ch.enc c).length = 1 + Ch.nb c → ∀ (R : V → Hp → Prop), (∀ H' : Hp, Same H H' → R (iv (pre.length + (Ch.enc c).length)) H') → R (.int ((pre.length : Int) + 1 + ((Ch.nb c : Nat) : Int))) (upd H t (.tup [.int 3, .int 6, .int 10])) := fun _ hl R hR => by
      have e : V.int ((pre.length : Int) + 1 + ((Ch.nb c : Nat) : Int)) = iv (pre.length + (Ch.enc c).length) := by
        rw [hl, show (pre.length : Int) + 1 + ((Ch.nb c : Nat) : Int) = ((pre.length + (1 + Ch.nb c) : Nat) : Int) by omega]
      rw [e]; exact hR _ s1
    have row : ∀ (s : List Nat) (n : Int), Ch.enc c = n :: (s.length : Int) :: Uw78.ints s → Ch.nb c = 1 → ((pre ++ Ch.enc c ++ post).map V.int)[pre.length + 1]? = some (.int (s.length : Int)) ∧ V.int ((pre.length : Int) + 1 + ((Ch.nb c : Nat) : Int) + (s.length : Int)) = iv (pre.length + (Ch.enc c).length) := fun s n e h1 => by
      refine ⟨?_, ?_⟩
      · rw [List.getElem?_map, e, List.append_assoc, List.getElem?_append_right (by omega), show pre.length + 1 - pre.length = 1 by omega]
        rfl
      · rw [e, h1]
        have : (n :: (s.length : Int) :: Uw78.ints s).length = s.length + 2 := by
          rw [List.length_cons, List.length_cons]; show (s.map _).length + 1 + 1 = _; rw [List.length_map]
        rw [this, show (pre.length : Int) + 1 + ((1 : Nat) : Int) + (s.length : Int) = ((pre.length + (s.length + 2) : Nat) : Int) by omega]
    have e1 : (pre.length : Int) + 1 = ((pre.length + 1 : Nat) : Int) := by omega
    have rowDo : ∀ (s : List Nat) (n : Int), Ch.enc c = n :: (s.length : Int) :: Uw78.ints s → Ch.nb c = 1 → ∀ H', Same H H' → SqL K H' a ((pre ++ Ch.enc c ++ post).map V.int) ∧ atI ((pre ++ Ch.enc c ++ post).map V.int) ((pre.length : Int) + 1) = some (.int (s.length : Int)) := fun s n e h1 H' s' => by
      refine ⟨s'.seq hS, ?_⟩
      rw [e1]
      exact atI_nat (row s n e h1).1
    cases c with
    | are s =>
      refine iteT ?_
      obtain ⟨q1, q2⟩ := rowDo s _ rfl rfl _ s1
      refine ⟨_, rfl, _, rfl, _, rfl, _, _, rfl, rfl, a, _, _, _, rfl, rfl, q1, q2, _, _, rfl, rfl, ?_⟩
      refine ⟨_, rfl, ?_⟩
      rw [(row s _ rfl rfl).2]
      exact z _ s1
    | to s =>
      refine iteT ?_
      obtain ⟨q1, q2⟩ := rowDo s _ rfl rfl _ s1
      refine ⟨_, rfl, _, rfl, _, rfl, _, _, rfl, rfl, a, _, _, _, rfl, rfl, q1, q2, _, _, rfl, rfl, ?_⟩
      refine ⟨_, rfl, ?_⟩
      rw [(row s _ rfl rfl).2]
      exact z _ s1
    | always s =>
      refine iteT ?_
      obtain ⟨q1, q2⟩ := rowDo s _ rfl rfl _ s1
      refine ⟨_, rfl, _, rfl, _, rfl, _, _, rfl, rfl, a, _, _, _, rfl, rfl, q1, q2, _, _, rfl, rfl, ?_⟩
      refine ⟨_, rfl, ?_⟩
      rw [(row s _ rfl rfl).2]
      exact z _ s1
    | begins k => exact iteF ⟨_, rfl, plain rfl rfl Q z⟩
    | rule a b c d => exact iteF ⟨_, rfl, plain rfl rfl Q z⟩
    | old => exact iteF ⟨_, rfl, plain rfl rfl Q z⟩
    | meet a b => exact iteF ⟨_, rfl, plain rfl rfl Q z⟩
    | may => exact iteF ⟨_, rfl, plain rfl rfl Q z⟩
    | one k => exact iteF ⟨_, rfl, plain rfl rfl Q z⟩
    | comes => exact iteF ⟨_, rfl, plain rfl rfl Q z⟩
    | rests => exact iteF ⟨_, rfl, plain rfl rfl Q z⟩
    | kept k => exact iteF ⟨_, rfl, plain rfl rfl Q z⟩
/-- the methods of the calls -/
structure Mts (K : PySem.W.Frag) (C : Addr) : Prop where
  lacks : ∃ f fd, Mt K C "lacks_any" "Island.lacks_any" sLacks ["self", "named"] f fd
  chg : ∃ f fd, Mt K C "changing_rules" "Island.changing_rules" sChg ["self"] f fd
  fits : ∃ f fd, Mt K C "fits" "Island.fits" sFits ["self", "stand"] f fd
  wayTo : ∃ f fd, Mt K C "way_to" "Island.way_to" sWayTo ["self", "stand"] f fd
  begins : ∃ f fd, Mt K C "begins" "Island.begins" sBegins ["self", "k"] f fd
  rule : ∃ f fd, Mt K C "rule" "Island.rule" sRule ["self", "a", "b", "c", "d"] f fd
  old : ∃ f fd, Mt K C "old" "Island.old" sOld ["self"] f fd
  are : ∃ f fd, Mt K C "are" "Island.are" sAre ["self", "stand"] f fd
  meet : ∃ f fd, Mt K C "meet" "Island.meet" sMeet ["self", "a", "b"] f fd
  may : ∃ f fd, Mt K C "may" "Island.may" sMay ["self"] f fd
  to : ∃ f fd, Mt K C "to" "Island.to" sTo ["self", "stand"] f fd
  one : ∃ f fd, Mt K C "one" "Island.one" sOne ["self", "colour"] f fd
  comes : ∃ f fd, Mt K C "comes" "Island.comes" sComes ["self"] f fd
  rests : ∃ f fd, Mt K C "rests" "Island.rests" sRests ["self"] f fd
  always : ∃ f fd, Mt K C "always" "Island.always" sAlways ["self", "stand"] f fd
  kept : ∃ f fd, Mt K C "kept" "Island.kept" sKept ["self", "m"] f fd
theorem scAnsTo : FnScope ["island", "number", "told"] ["island", "number", "told"] (defScope sAnsTo) := ⟨rfl, rfl, rfl, by decide +kernel, rfl, by decide +kernel, by decide +kernel⟩
theorem cut1 {n : Int} {s : List Nat} : cutV (((n :: Uw78.ints s)).map V.int) (some 1) none = lv s := by
  unfold cutV
  rw [show (some (1 : Int)) = some ((1 : Nat) : Int) from rfl, HT.sIx_nat, HT.sIx_none, List.length_map, List.length_cons, Nat.min_eq_left (by omega), List.map_cons, lv_ints]
  show ((((Uw78.ints s).map V.int)).take ((Uw78.ints s).length + 1 - 1)) = _
  rw [Nat.add_sub_cancel, ← List.length_map (f := V.int), List.take_length]
theorem ok_ansTo {f C : Addr} {fd : FuncData} (F : Fun K "answer_to" "answer_to" sAnsTo f fd) (T : Txt K mg C) (D : Defs K mg) (N : Nums K mg) (M : Mts K C) : FnOk P w K mg base CX0 6 f fd ["island", "number", "told"] (spAnsTo C) := by
  obtain ⟨f1, fd1, ML⟩ := M.lacks
  obtain ⟨f2, fd2, MG⟩ := M.chg
  obtain ⟨f3, fd3, MF⟩ := M.fits
  obtain ⟨f4, fd4, MW⟩ := M.wayTo
  obtain ⟨g0, gd0, M0⟩ := M.begins
  obtain ⟨g1, gd1, M1⟩ := M.rule
  obtain ⟨g2, gd2, M2⟩ := M.old
  obtain ⟨g3, gd3, M3⟩ := M.are
  obtain ⟨g4, gd4, M4⟩ := M.meet
  obtain ⟨g5, gd5, M5⟩ := M.may
  obtain ⟨g6, gd6, M6⟩ := M.to
  obtain ⟨g7, gd7, M7⟩ := M.one
  obtain ⟨g8, gd8, M8⟩ := M.comes
  obtain ⟨g9, gd9, M9⟩ := M.rests
  obtain ⟨g10, gd10, M10⟩ := M.always
  obtain ⟨g11, gd11, M11⟩ := M.kept
  have G0 : FnOk P w K mg base CX0 3 g0 gd0 ["self", "k"] (spBegins C) := ok_begins M0.fn T D
  have G1 : FnOk P w K mg base CX0 2 g1 gd1 ["self", "a", "b", "c", "d"] (spRule C) := ok_rule M1.fn T D ML MG
  have G2 : FnOk P w K mg base CX0 4 g2 gd2 ["self"] (spOld C) := ok_old M2.fn T D MG
  have G3 : FnOk P w K mg base CX0 1 g3 gd3 ["self", "stand"] (spAre C) := ok_are M3.fn T
  have G4 : FnOk P w K mg base CX0 2 g4 gd4 ["self", "a", "b"] (spMeet C) := ok_meet M4.fn T D ML
  have G5 : FnOk P w K mg base CX0 3 g5 gd5 ["self"] (spMay C) := ok_may M5.fn T D
  have G6 : FnOk P w K mg base CX0 5 g6 gd6 ["self", "stand"] (spTo C) := ok_to M6.fn T D MF MW
  have G7 : FnOk P w K mg base CX0 5 g7 gd7 ["self", "colour"] (spOne C) := ok_one M7.fn T D ML MW
  have G8 : FnOk P w K mg base CX0 4 g8 gd8 ["self"] (spComes C) := ok_comes M8.fn T D
  have G9 : FnOk P w K mg base CX0 4 g9 gd9 ["self"] (spRests C) := ok_rests M9.fn T D
  have G10 : FnOk P w K mg base CX0 4 g10 gd10 ["self", "stand"] (spAlways C) := ok_always M10.fn T D MF
  have G11 : FnOk P w K mg base CX0 2 g11 gd11 ["self", "m"] (spKept C) := ok_kept M11.fn T D
  obtain ⟨_, m0⟩ := N.begins
  obtain ⟨_, m1⟩ := N.rule
  obtain ⟨_, m2⟩ := N.old
  obtain ⟨_, m3⟩ := N.are
  obtain ⟨_, m4⟩ := N.meet
  obtain ⟨_, m5⟩ := N.may
  obtain ⟨_, m6⟩ := N.to
  obtain ⟨_, m7⟩ := N.one
  obtain ⟨_, m8⟩ := N.comes
  obtain ⟨_, m9⟩ := N.rests
  obtain ⟨_, m10⟩ := N.always
  refine F.ok scAnsTo (fun vs H Q E h => ?_) (fun cdv A outer s H vs Q E hr h => ?_)
  · obtain ⟨_, _, _, _, _, rfl, _⟩ := h
    rfl
  · obtain ⟨p, t, c, n, r, rfl, en, ht, hdo⟩ := h
    have r1 := hr.mono (show 1 ≤ 5 by decide)
    have r2 := hr.mono (show 2 ≤ 5 by decide)
    have r3 := hr.mono (show 3 ≤ 5 by decide)
    have r4 := hr.mono (show 4 ≤ 5 by decide)
    refine ⟨_, pss_cons (ps_if (pt_cmpR op_eq (pv 1) (pe_glob rfl m0 (v := .int 0) ⟨_, rfl⟩) (nomark _)) (pss_one (ps_ret (pe_meth (pv 0) T.cl M0.m G0 r3 M0.b .nil pass0 (pa_cons (pe_ix ix_list (pv 2) pe_int (fun _ _ => rfl)) pa_nil)))) pss_nil)
      (pss_cons (ps_if (pt_cmpR op_eq (pv 1) (pe_glob rfl m1 (v := .int 1) ⟨_, rfl⟩) (nomark _)) (pss_one (ps_ret (pe_meth (pv 0) T.cl M1.m G1 r2 M1.b .nil pass0 (pa_cons (pe_ix ix_list (pv 2) pe_int (fun _ _ => rfl)) (pa_cons (pe_ix ix_list (pv 2) pe_int (fun _ _ => rfl)) (pa_cons (pe_ix ix_list (pv 2) pe_int (fun _ _ => rfl)) (pa_cons (pe_ix ix_list (pv 2) pe_int (fun _ _ => rfl)) pa_nil))))))) pss_nil)
      (pss_cons (ps_if (pt_cmpR op_eq (pv 1) (pe_glob rfl m2 (v := .int 2) ⟨_, rfl⟩) (nomark _)) (pss_one (ps_ret (pe_meth0 (pv 0) T.cl M2.m G2 r4 M2.b .nil pass0))) pss_nil)
      (pss_cons (ps_if (pt_cmpR op_eq (pv 1) (pe_glob rfl m3 (v := .int 3) ⟨_, rfl⟩) (nomark _)) (pss_one (ps_ret (pe_meth (pv 0) T.cl M3.m G3 r1 M3.b .nil pass0 (pa_cons (pe_slice sl_list (pv 2) (po_some pe_int) po_none) pa_nil)))) pss_nil)
      (pss_cons (ps_if (pt_cmpR op_eq (pv 1) (pe_glob rfl m4 (v := .int 4) ⟨_, rfl⟩) (nomark _)) (pss_one (ps_ret (pe_meth (pv 0) T.cl M4.m G4 r2 M4.b .nil pass0 (pa_cons (pe_ix ix_list (pv 2) pe_int (fun _ _ => rfl)) (pa_cons (pe_ix ix_list (pv 2) pe_int (fun _ _ => rfl)) pa_nil))))) pss_nil)
      (pss_cons (ps_if (pt_cmpR op_eq (pv 1) (pe_glob rfl m5 (v := .int 5) ⟨_, rfl⟩) (nomark _)) (pss_one (ps_ret (pe_meth0 (pv 0) T.cl M5.m G5 r3 M5.b .nil pass0))) pss_nil)
      (pss_cons (ps_if (pt_cmpR op_eq (pv 1) (pe_glob rfl m6 (v := .int 6) ⟨_, rfl⟩) (nomark _)) (pss_one (ps_ret (pe_meth (pv 0) T.cl M6.m G6 hr M6.b .nil pass0 (pa_cons (pe_slice sl_list (pv 2) (po_some pe_int) po_none) pa_nil)))) pss_nil)
      (pss_cons (ps_if (pt_cmpR op_eq (pv 1) (pe_glob rfl m7 (v := .int 7) ⟨_, rfl⟩) (nomark _)) (pss_one (ps_ret (pe_meth (pv 0) T.cl M7.m G7 hr M7.b .nil pass0 (pa_cons (pe_ix ix_list (pv 2) pe_int (fun _ _ => rfl)) pa_nil)))) pss_nil)
      (pss_cons (ps_if (pt_cmpR op_eq (pv 1) (pe_glob rfl m8 (v := .int 8) ⟨_, rfl⟩) (nomark _)) (pss_one (ps_ret (pe_meth0 (pv 0) T.cl M8.m G8 r4 M8.b .nil pass0))) pss_nil)
      (pss_cons (ps_if (pt_cmpR op_eq (pv 1) (pe_glob rfl m9 (v := .int 9) ⟨_, rfl⟩) (nomark _)) (pss_one (ps_ret (pe_meth0 (pv 0) T.cl M9.m G9 r4 M9.b .nil pass0))) pss_nil)
      (pss_cons (ps_if (pt_cmpR op_eq (pv 1) (pe_glob rfl m10 (v := .int 10) ⟨_, rfl⟩) (nomark _)) (pss_one (ps_ret (pe_meth (pv 0) T.cl M10.m G10 r4 M10.b .nil pass0 (pa_cons (pe_slice sl_list (pv 2) (po_some pe_int) po_none) pa_nil)))) pss_nil)
      (pss_one (ps_ret (pe_meth (pv 0) T.cl M11.m G11 r2 M11.b .nil pass0 (pa_cons (pe_ix ix_list (pv 2) pe_int (fun _ _ => rfl)) pa_nil)))))))))))))), ?_⟩
    obtain ⟨x, hI, wf, z⟩ := hdo
    obtain ⟨dx, dB, sB, hp, hR, hS⟩ := hI.ex
    have no : ∀ {m : Str}, ¬ m = "colours" → ¬ m = "becomes" → ¬ m = "stand" → (isf x.k dB sB).lookup m = none := fun a b c => isf_no _ _ _ a b c
    have rowDo : ∀ (s : List Nat), Ch.enc c = n :: (s.length : Int) :: Uw78.ints s → ∀ q, H q = none → Same H (upd H q (.lst (lv s))) ∧ ∀ (H' : Hp) (l : Addr), IslAt C H' p (Uw78.step x c).1 → Keep p (upd H q (.lst (lv s))) H' → StandOk C p (upd H q (.lst (lv s))) H' → (upd H q (.lst (lv s))) l = none → H' l = some (.lst ((Uw78.step x c).2.map V.int)) → Q (.ref l) H' := fun s _ q hq => by
      have s1 : Same H (upd H q (.lst (lv s))) := Same.new hq
      refine ⟨s1, fun H' l i1 k1 st1 hl h1 => z H' l i1 ((Same.keep s1).trans k1) (fun t ht => ?_) (s1.free hl) h1⟩
      rcases st1 t ht with q1 | q1
      · obtain ⟨dx', k', dB', e⟩ := q1
        have e2 := s1 _ _ hp
        rw [e] at e2
        injection e2 with e2
        exact .inl ⟨dx', k', dB', by rw [e2]; exact hp⟩
      · exact .inr (s1.free q1)
    cases c with
    | begins k =>
      cases en
      refine ⟨_, rfl, rfl, _, rfl, eqI rfl ?_⟩
      exact ⟨_, rfl, p, dx, _, rfl, hp, no (by decide +kernel) (by decide +kernel) (by decide +kernel), _, rfl, t, _, _, _, rfl, rfl, SqL.of ht, atI_nat (j := 0) rfl, p, k, rfl, x, hI, wf, z⟩
    | rule a b c d =>
      cases en
      refine ⟨_, rfl, rfl, _, rfl, neI (by decide) ?_⟩
      refine ⟨_, rfl, rfl, _, rfl, eqI rfl ?_⟩
      exact ⟨_, rfl, p, dx, _, rfl, hp, no (by decide +kernel) (by decide +kernel) (by decide +kernel), _, rfl, t, _, _, _, rfl, rfl, SqL.of ht, atI_nat (j := 0) rfl, _, rfl, t, _, _, _, rfl, rfl, SqL.of ht, atI_nat (j := 1) rfl, _, rfl, t, _, _, _, rfl, rfl, SqL.of ht, atI_nat (j := 2) rfl, _, rfl, t, _, _, _, rfl, rfl, SqL.of ht, atI_nat (j := 3) rfl, p, a, b, c, d, rfl, x, hI, wf, z⟩
    | old =>
      cases en
      refine ⟨_, rfl, rfl, _, rfl, neI (by decide) ?_⟩
      refine ⟨_, rfl, rfl, _, rfl, neI (by decide) ?_⟩
      refine ⟨_, rfl, rfl, _, rfl, eqI rfl ?_⟩
      exact ⟨_, rfl, p, dx, _, rfl, hp, no (by decide +kernel) (by decide +kernel) (by decide +kernel), p, rfl, x, hI, wf, z⟩
    | are st =>
      cases en
      refine ⟨_, rfl, rfl, _, rfl, neI (by decide) ?_⟩
      refine ⟨_, rfl, rfl, _, rfl, neI (by decide) ?_⟩
      refine ⟨_, rfl, rfl, _, rfl, neI (by decide) ?_⟩
      refine ⟨_, rfl, rfl, _, rfl, eqI rfl ?_⟩
      refine ⟨_, rfl, p, dx, _, rfl, hp, no (by decide +kernel) (by decide +kernel) (by decide +kernel), _, rfl, _, rfl, t, _, rfl, SqL.of ht, fun q hq => ?_⟩
      rw [cut1]
      obtain ⟨s1, z1⟩ := rowDo st rfl q hq
      exact ⟨p, q, st, rfl, upd_same, x, hI.same s1, wf, z1⟩
    | meet a b =>
      cases en
      refine ⟨_, rfl, rfl, _, rfl, neI (by decide) ?_⟩
      refine ⟨_, rfl, rfl, _, rfl, neI (by decide) ?_⟩
      refine ⟨_, rfl, rfl, _, rfl, neI (by decide) ?_⟩
      refine ⟨_, rfl, rfl, _, rfl, neI (by decide) ?_⟩
      refine ⟨_, rfl, rfl, _, rfl, eqI rfl ?_⟩
      exact ⟨_, rfl, p, dx, _, rfl, hp, no (by decide +kernel) (by decide +kernel) (by decide +kernel), _, rfl, t, _, _, _, rfl, rfl, SqL.of ht, atI_nat (j := 0) rfl, _, rfl, t, _, _, _, rfl, rfl, SqL.of ht, atI_nat (j := 1) rfl, p, a, b, rfl, x, hI, wf, z⟩
    | may =>
      cases en
      refine ⟨_, rfl, rfl, _, rfl, neI (by decide) ?_⟩
      refine ⟨_, rfl, rfl, _, rfl, neI (by decide) ?_⟩
      refine ⟨_, rfl, rfl, _, rfl, neI (by decide) ?_⟩
      refine ⟨_, rfl, rfl, _, rfl, neI (by decide) ?_⟩
      refine ⟨_, rfl, rfl, _, rfl, neI (by decide) ?_⟩
      refine ⟨_, rfl, rfl, _, rfl, eqI rfl ?_⟩
      exact ⟨_, rfl, p, dx, _, rfl, hp, no (by decide +kernel) (by decide +kernel) (by decide +kernel), p, rfl, x, hI, wf, z⟩
    | to st =>
      cases en
      refine ⟨_, rfl, rfl, _, rfl, neI (by decide) ?_⟩
      refine ⟨_, rfl, rfl, _, rfl, neI (by decide) ?_⟩
      refine ⟨_, rfl, rfl, _, rfl, neI (by decide) ?_⟩
      refine ⟨_, rfl, rfl, _, rfl, neI (by decide) ?_⟩
      refine ⟨_, rfl, rfl, _, rfl, neI (by decide) ?_⟩
      refine ⟨_, rfl, rfl, _, rfl, neI (by decide) ?_⟩
      refine ⟨_, rfl, rfl, _, rfl, eqI rfl ?_⟩
      refine ⟨_, rfl, p, dx, _, rfl, hp, no (by decide +kernel) (by decide +kernel) (by decide +kernel), _, rfl, _, rfl, t, _, rfl, SqL.of ht, fun q hq => ?_⟩
      rw [cut1]
      obtain ⟨s1, z1⟩ := rowDo st rfl q hq
      exact ⟨p, q, st, rfl, upd_same, x, hI.same s1, wf, z1⟩
    | one k =>
      cases en
      refine ⟨_, rfl, rfl, _, rfl, neI (by decide) ?_⟩
      refine ⟨_, rfl, rfl, _, rfl, neI (by decide) ?_⟩
      refine ⟨_, rfl, rfl, _, rfl, neI (by decide) ?_⟩
      refine ⟨_, rfl, rfl, _, rfl, neI (by decide) ?_⟩
      refine ⟨_, rfl, rfl, _, rfl, neI (by decide) ?_⟩
      refine ⟨_, rfl, rfl, _, rfl, neI (by decide) ?_⟩
      refine ⟨_, rfl, rfl, _, rfl, neI (by decide) ?_⟩
      refine ⟨_, rfl, rfl, _, rfl, eqI rfl ?_⟩
      exact ⟨_, rfl, p, dx, _, rfl, hp, no (by decide +kernel) (by decide +kernel) (by decide +kernel), _, rfl, t, _, _, _, rfl, rfl, SqL.of ht, atI_nat (j := 0) rfl, p, k, rfl, x, hI, wf, z⟩
    | comes =>
      cases en
      refine ⟨_, rfl, rfl, _, rfl, neI (by decide) ?_⟩
      refine ⟨_, rfl, rfl, _, rfl, neI (by decide) ?_⟩
      refine ⟨_, rfl, rfl, _, rfl, neI (by decide) ?_⟩
      refine ⟨_, rfl, rfl, _, rfl, neI (by decide) ?_⟩
      refine ⟨_, rfl, rfl, _, rfl, neI (by decide) ?_⟩
      refine ⟨_, rfl, rfl, _, rfl, neI (by decide) ?_⟩
      refine ⟨_, rfl, rfl, _, rfl, neI (by decide) ?_⟩
      refine ⟨_, rfl, rfl, _, rfl, neI (by decide) ?_⟩
      refine ⟨_, rfl, rfl, _, rfl, eqI rfl ?_⟩
      exact ⟨_, rfl, p, dx, _, rfl, hp, no (by decide +kernel) (by decide +kernel) (by decide +kernel), p, rfl, x, hI, wf, z⟩
    | rests =>
      cases en
      refine ⟨_, rfl, rfl, _, rfl, neI (by decide) ?_⟩
      refine ⟨_, rfl, rfl, _, rfl, neI (by decide) ?_⟩
      refine ⟨_, rfl, rfl, _, rfl, neI (by decide) ?_⟩
      refine ⟨_, rfl, rfl, _, rfl, neI (by decide) ?_⟩
      refine ⟨_, rfl, rfl, _, rfl, neI (by decide) ?_⟩
      refine ⟨_, rfl, rfl, _, rfl, neI (by decide) ?_⟩
      refine ⟨_, rfl, rfl, _, rfl, neI (by decide) ?_⟩
      refine ⟨_, rfl, rfl, _, rfl, neI (by decide) ?_⟩
      refine ⟨_, rfl, rfl, _, rfl, neI (by decide) ?_⟩
      refine ⟨_, rfl, rfl, _, rfl, eqI rfl ?_⟩
      exact ⟨_, rfl, p, dx, _, rfl, hp, no (by decide +kernel) (by decide +kernel) (by decide +kernel), p, rfl, x, hI, wf, z⟩
    | always st =>
      cases en
      refine ⟨_, rfl, rfl, _, rfl, neI (by decide) ?_⟩
      refine ⟨_, rfl, rfl, _, rfl, neI (by decide) ?_⟩
      refine ⟨_, rfl, rfl, _, rfl, neI (by decide) ?_⟩
      refine ⟨_, rfl, rfl, _, rfl, neI (by decide) ?_⟩
      refine ⟨_, rfl, rfl, _, rfl, neI (by decide) ?_⟩
      refine ⟨_, rfl, rfl, _, rfl, neI (by decide) ?_⟩
      refine ⟨_, rfl, rfl, _, rfl, neI (by decide) ?_⟩
      refine ⟨_, rfl, rfl, _, rfl, neI (by decide) ?_⟩
      refine ⟨_, rfl, rfl, _, rfl, neI (by decide) ?_⟩
      refine ⟨_, rfl, rfl, _, rfl, neI (by decide) ?_⟩
      refine ⟨_, rfl, rfl, _, rfl, eqI rfl ?_⟩
      refine ⟨_, rfl, p, dx, _, rfl, hp, no (by decide +kernel) (by decide +kernel) (by decide +kernel), _, rfl, _, rfl, t, _, rfl, SqL.of ht, fun q hq => ?_⟩
      rw [cut1]
      obtain ⟨s1, z1⟩ := rowDo st rfl q hq
      exact ⟨p, q, st, rfl, upd_same, x, hI.same s1, wf, z1⟩
    | kept k =>
      cases en
      refine ⟨_, rfl, rfl, _, rfl, neI (by decide) ?_⟩
      refine ⟨_, rfl, rfl, _, rfl, neI (by decide) ?_⟩
      refine ⟨_, rfl, rfl, _, rfl, neI (by decide) ?_⟩
      refine ⟨_, rfl, rfl, _, rfl, neI (by decide) ?_⟩
      refine ⟨_, rfl, rfl, _, rfl, neI (by decide) ?_⟩
      refine ⟨_, rfl, rfl, _, rfl, neI (by decide) ?_⟩
      refine ⟨_, rfl, rfl, _, rfl, neI (by decide) ?_⟩
      refine ⟨_, rfl, rfl, _, rfl, neI (by decide) ?_⟩
      refine ⟨_, rfl, rfl, _, rfl, neI (by decide) ?_⟩
      refine ⟨_, rfl, rfl, _, rfl, neI (by decide) ?_⟩
      refine ⟨_, rfl, rfl, _, rfl, neI (by decide) ?_⟩
      exact ⟨_, rfl, p, dx, _, rfl, hp, no (by decide +kernel) (by decide +kernel) (by decide +kernel), _, rfl, t, _, _, _, rfl, rfl, SqL.of ht, atI_nat (j := 0) rfl, p, k, rfl, x, hI, wf, z⟩
end
end Isl

end

section
set_option Elab.async false
set_option linter.all false
set_option maxRecDepth 100000
set_option maxHeartbeats 4000000
namespace Isl
open PySem PySem.Spec PyProof.Rows L2
section
variable {K : PySem.W.Frag} {h : Heap} {mg : Str → Option Value} {f C : Addr} {x : Str} {st : Stmt} {ps : List Str} {oc kV doc pm cdv ct : Value} {od an : Option Addr} {osl : Array (Option Value)}
theorem def_mk (X : K.In h) (G : h.Ns mainGlobals mg) (a : PySem.W.nsIn K mainGlobals x = some (some (.ref f)))
    (l : K.lookup f = some ⟨oc, od, .func (PySem.W.fnOf x x (defArgs st) (defBody st) (defScope st) .none kV doc pm an cdv ct), osl⟩) (c : PySem.W.codeIn K cdv x = true) (k : PySem.W.keepIn K (.ref f) = true)
    (hb : ∀ (kV doc pm : Value) (an : Option Addr) (cdv ct : Value) (us : List Value), us.length = ps.length → bindArgs (PySem.W.fnOf x x (defArgs st) (defBody st) (defScope st) .none kV doc pm an cdv ct) ⟨us, []⟩ = pure (ps.zip us)) :
    ∃ f fd, Def K mg x st ps f fd := by
  have F := fun_mk (st := st) l c k
  exact ⟨f, _, F, PySem.W.mg_of X G a, F.binds hb⟩
theorem mt_mk {m q : Str} (a : PySem.W.findIn K (.ref C) m = some (some (.ref f))) (i : PySem.W.isFn K (.ref f) = true)
    (l : K.lookup f = some ⟨oc, od, .func (PySem.W.fnOf m q (defArgs st) (defBody st) (defScope st) .none kV doc pm an cdv ct), osl⟩) (c : PySem.W.codeIn K cdv q = true) (k : PySem.W.keepIn K (.ref f) = true)
    (hb : ∀ (kV doc pm : Value) (an : Option Addr) (cdv ct : Value) (us : List Value), us.length = ps.length → bindArgs (PySem.W.fnOf m q (defArgs st) (defBody st) (defScope st) .none kV doc pm an cdv ct) ⟨us, []⟩ = pure (ps.zip us)) :
    ∃ f fd, Mt K C m q st ps f fd := by
  have F := fun_mk (st := st) l c k
  exact ⟨f, _, F, ⟨a, i, k⟩, F.binds hb⟩
theorem with_def {g : Prop} (X : K.In h) (G : h.Ns mainGlobals mg) (a : PySem.W.nsIn K mainGlobals x = some (some (.ref f)))
    (l : K.lookup f = some ⟨oc, od, .func (PySem.W.fnOf x x (defArgs st) (defBody st) (defScope st) .none kV doc pm an cdv ct), osl⟩) (c : PySem.W.codeIn K cdv x = true) (k : PySem.W.keepIn K (.ref f) = true)
    (hb : ∀ (kV doc pm : Value) (an : Option Addr) (cdv ct : Value) (us : List Value), us.length = ps.length → bindArgs (PySem.W.fnOf x x (defArgs st) (defBody st) (defScope st) .none kV doc pm an cdv ct) ⟨us, []⟩ = pure (ps.zip us))
    (z : (∃ f fd, Def K mg x st ps f fd) → g) : g := z (def_mk X G a l c k hb)
theorem with_num {g : Prop} {n : Int} {t : Tok} (X : K.In h) (G : h.Ns mainGlobals mg) (a : PySem.W.nsIn K mainGlobals x = some (some (.int n t))) (z : Num mg x n → g) : g := z ⟨t, PySem.W.mg_of X G a⟩
theorem with_blt {g : Prop} (X : K.In h) (G : h.Ns mainGlobals mg) (a : PySem.W.nsIn K mainGlobals x = some none) (z : mg x = none → g) : g := z (PySem.W.mg_none_of X G a)
/-- the tuple that the top binds -/
theorem with_tup {g : Prop} {a : Addr} {its : Array Value} {n : Nat} (X : K.In h) (G : h.Ns mainGlobals mg) (e : PySem.W.nsIn K mainGlobals x = some (some (.ref a))) (l : K.lookup a = some ⟨.type "tuple", od, .seq its n, osl⟩) (v : Vals (lv nbs) its.toList) (s : its.size ≤ sizeLine)
    (z : (∃ a, mg x = some (.ref a) ∧ ∀ H, SqT K H a (lv nbs)) → g) : g := z ⟨a, PySem.W.mg_of X G e, fun H => .inr ⟨_, its, n, l, rfl, rfl, s, v⟩⟩
theorem num_mk {n : Int} {t : Tok} (X : K.In h) (G : h.Ns mainGlobals mg) (a : PySem.W.nsIn K mainGlobals x = some (some (.int n t))) : Num mg x n := ⟨t, PySem.W.mg_of X G a⟩
end
end Isl

end

set_option Elab.async false
set_option linter.all false
set_option maxRecDepth 100000
set_option maxHeartbeats 4000000
namespace Isl
open PySem PySem.Spec PyProof.Rows L2
structure ClsAll (K : PySem.W.Frag) (C : Addr) : Prop where
  cl : Cls K C
  mkC : PySem.W.makesIn K C = true
  kc : PySem.W.keepIn K (.ref C) = true
  n0 : NoAttr K C "colours"
  n1 : NoAttr K C "becomes"
  n2 : NoAttr K C "stand"
  m0 : ∃ f fd, Mt K C "__init__" "Island.__init__" sInit ["self"] f fd
  m1 : ∃ f fd, Mt K C "lacks_any" "Island.lacks_any" sLacks ["self", "named"] f fd
  m2 : ∃ f fd, Mt K C "changing_rules" "Island.changing_rules" sChg ["self"] f fd
  m3 : ∃ f fd, Mt K C "fits" "Island.fits" sFits ["self", "stand"] f fd
  m4 : ∃ f fd, Mt K C "way_to" "Island.way_to" sWayTo ["self", "stand"] f fd
  m5 : ∃ f fd, Mt K C "begins" "Island.begins" sBegins ["self", "k"] f fd
  m6 : ∃ f fd, Mt K C "rule" "Island.rule" sRule ["self", "a", "b", "c", "d"] f fd
  m7 : ∃ f fd, Mt K C "old" "Island.old" sOld ["self"] f fd
  m8 : ∃ f fd, Mt K C "are" "Island.are" sAre ["self", "stand"] f fd
  m9 : ∃ f fd, Mt K C "meet" "Island.meet" sMeet ["self", "a", "b"] f fd
  m10 : ∃ f fd, Mt K C "may" "Island.may" sMay ["self"] f fd
  m11 : ∃ f fd, Mt K C "to" "Island.to" sTo ["self", "stand"] f fd
  m12 : ∃ f fd, Mt K C "one" "Island.one" sOne ["self", "colour"] f fd
  m13 : ∃ f fd, Mt K C "comes" "Island.comes" sComes ["self"] f fd
  m14 : ∃ f fd, Mt K C "rests" "Island.rests" sRests ["self"] f fd
  m15 : ∃ f fd, Mt K C "always" "Island.always" sAlways ["self", "stand"] f fd
  m16 : ∃ f fd, Mt K C "kept" "Island.kept" sKept ["self", "m"] f fd
theorem with_cls {g : Prop} {K : PySem.W.Frag} {h : Heap} {C : Addr} {f0 : Addr} {od0 an0 : Option Addr} {sl0 : Array (Option Value)} {oc0 kV0 dc0 pm0 cd0 ct0 : Value} {f1 : Addr} {od1 an1 : Option Addr} {sl1 : Array (Option Value)} {oc1 kV1 dc1 pm1 cd1 ct1 : Value} {f2 : Addr} {od2 an2 : Option Addr} {sl2 : Array (Option Value)} {oc2 kV2 dc2 pm2 cd2 ct2 : Value} {f3 : Addr} {od3 an3 : Option Addr} {sl3 : Array (Option Value)} {oc3 kV3 dc3 pm3 cd3 ct3 : Value} {f4 : Addr} {od4 an4 : Option Addr} {sl4 : Array (Option Value)} {oc4 kV4 dc4 pm4 cd4 ct4 : Value} {f5 : Addr} {od5 an5 : Option Addr} {sl5 : Array (Option Value)} {oc5 kV5 dc5 pm5 cd5 ct5 : Value} {f6 : Addr} {od6 an6 : Option Addr} {sl6 : Array (Option Value)} {oc6 kV6 dc6 pm6 cd6 ct6 : Value} {f7 : Addr} {od7 an7 : Option Addr} {sl7 : Array (Option Value)} {oc7 kV7 dc7 pm7 cd7 ct7 : Value} {f8 : Addr} {od8 an8 : Option Addr} {sl8 : Array (Option Value)} {oc8 kV8 dc8 pm8 cd8 ct8 : Value} {f9 : Addr} {od9 an9 : Option Addr} {sl9 : Array (Option Value)} {oc9 kV9 dc9 pm9 cd9 ct9 : Value} {f10 : Addr} {od10 an10 : Option Addr} {sl10 : Array (Option Value)} {oc10 kV10 dc10 pm10 cd10 ct10 : Value} {f11 : Addr} {od11 an11 : Option Addr} {sl11 : Array (Option Value)} {oc11 kV11 dc11 pm11 cd11 ct11 : Value} {f12 : Addr} {od12 an12 : Option Addr} {sl12 : Array (Option Value)} {oc12 kV12 dc12 pm12 cd12 ct12 : Value} {f13 : Addr} {od13 an13 : Option Addr} {sl13 : Array (Option Value)} {oc13 kV13 dc13 pm13 cd13 ct13 : Value} {f14 : Addr} {od14 an14 : Option Addr} {sl14 : Array (Option Value)} {oc14 kV14 dc14 pm14 cd14 ct14 : Value} {f15 : Addr} {od15 an15 : Option Addr} {sl15 : Array (Option Value)} {oc15 kV15 dc15 pm15 cd15 ct15 : Value} {f16 : Addr} {od16 an16 : Option Addr} {sl16 : Array (Option Value)} {oc16 kV16 dc16 pm16 cd16 ct16 : Value} (X : K.In h) (aC : PySem.W.nsIn K mainGlobals "Island" = some (some (.ref C)))
    (pg : PySem.W.plainGet K C Str.empty = true) (hd : PySem.W.hasDictIn K C = true) (po : PySem.W.plainOver K C = true) (sa : PySem.W.findIn K (.ref C) "__setattr__" = some (some (.builtin "object.__setattr__"))) (mk : PySem.W.makesIn K C = true) (kc : PySem.W.keepIn K (.ref C) = true)
    (n0 : PySem.W.findIn K (.ref C) "colours" = some none) (n1 : PySem.W.findIn K (.ref C) "becomes" = some none) (n2 : PySem.W.findIn K (.ref C) "stand" = some none)
    (a0 : PySem.W.findIn K (.ref C) "__init__" = some (some (.ref f0))) (i0 : PySem.W.isFn K (.ref f0) = true) (l0 : K.lookup f0 = some ⟨oc0, od0, .func (PySem.W.fnOf "__init__" "Island.__init__" (defArgs sInit) (defBody sInit) (defScope sInit) .none kV0 dc0 pm0 an0 cd0 ct0), sl0⟩) (c0 : PySem.W.codeIn K cd0 "Island.__init__" = true) (k0 : PySem.W.keepIn K (.ref f0) = true)
    (hb0 : ∀ (kV doc pm : Value) (an : Option Addr) (cdv ct : Value) (us : List Value), us.length = (["self"] : List Str).length → bindArgs (PySem.W.fnOf "__init__" "Island.__init__" (defArgs sInit) (defBody sInit) (defScope sInit) .none kV doc pm an cdv ct) ⟨us, []⟩ = pure ((["self"] : List Str).zip us))
    (a1 : PySem.W.findIn K (.ref C) "lacks_any" = some (some (.ref f1))) (i1 : PySem.W.isFn K (.ref f1) = true) (l1 : K.lookup f1 = some ⟨oc1, od1, .func (PySem.W.fnOf "lacks_any" "Island.lacks_any" (defArgs sLacks) (defBody sLacks) (defScope sLacks) .none kV1 dc1 pm1 an1 cd1 ct1), sl1⟩) (c1 : PySem.W.codeIn K cd1 "Island.lacks_any" = true) (k1 : PySem.W.keepIn K (.ref f1) = true)
    (hb1 : ∀ (kV doc pm : Value) (an : Option Addr) (cdv ct : Value) (us : List Value), us.length = (["self", "named"] : List Str).length → bindArgs (PySem.W.fnOf "lacks_any" "Island.lacks_any" (defArgs sLacks) (defBody sLacks) (defScope sLacks) .none kV doc pm an cdv ct) ⟨us, []⟩ = pure ((["self", "named"] : List Str).zip us))
    (a2 : PySem.W.findIn K (.ref C) "changing_rules" = some (some (.ref f2))) (i2 : PySem.W.isFn K (.ref f2) = true) (l2 : K.lookup f2 = some ⟨oc2, od2, .func (PySem.W.fnOf "changing_rules" "Island.changing_rules" (defArgs sChg) (defBody sChg) (defScope sChg) .none kV2 dc2 pm2 an2 cd2 ct2), sl2⟩) (c2 : PySem.W.codeIn K cd2 "Island.changing_rules" = true) (k2 : PySem.W.keepIn K (.ref f2) = true)
    (hb2 : ∀ (kV doc pm : Value) (an : Option Addr) (cdv ct : Value) (us : List Value), us.length = (["self"] : List Str).length → bindArgs (PySem.W.fnOf "changing_rules" "Island.changing_rules" (defArgs sChg) (defBody sChg) (defScope sChg) .none kV doc pm an cdv ct) ⟨us, []⟩ = pure ((["self"] : List Str).zip us))
    (a3 : PySem.W.findIn K (.ref C) "fits" = some (some (.ref f3))) (i3 : PySem.W.isFn K (.ref f3) = true) (l3 : K.lookup f3 = some ⟨oc3, od3, .func (PySem.W.fnOf "fits" "Island.fits" (defArgs sFits) (defBody sFits) (defScope sFits) .none kV3 dc3 pm3 an3 cd3 ct3), sl3⟩) (c3 : PySem.W.codeIn K cd3 "Island.fits" = true) (k3 : PySem.W.keepIn K (.ref f3) = true)
    (hb3 : ∀ (kV doc pm : Value) (an : Option Addr) (cdv ct : Value) (us : List Value), us.length = (["self", "stand"] : List Str).length → bindArgs (PySem.W.fnOf "fits" "Island.fits" (defArgs sFits) (defBody sFits) (defScope sFits) .none kV doc pm an cdv ct) ⟨us, []⟩ = pure ((["self", "stand"] : List Str).zip us))
    (a4 : PySem.W.findIn K (.ref C) "way_to" = some (some (.ref f4))) (i4 : PySem.W.isFn K (.ref f4) = true) (l4 : K.lookup f4 = some ⟨oc4, od4, .func (PySem.W.fnOf "way_to" "Island.way_to" (defArgs sWayTo) (defBody sWayTo) (defScope sWayTo) .none kV4 dc4 pm4 an4 cd4 ct4), sl4⟩) (c4 : PySem.W.codeIn K cd4 "Island.way_to" = true) (k4 : PySem.W.keepIn K (.ref f4) = true)
    (hb4 : ∀ (kV doc pm : Value) (an : Option Addr) (cdv ct : Value) (us : List Value), us.length = (["self", "stand"] : List Str).length → bindArgs (PySem.W.fnOf "way_to" "Island.way_to" (defArgs sWayTo) (defBody sWayTo) (defScope sWayTo) .none kV doc pm an cdv ct) ⟨us, []⟩ = pure ((["self", "stand"] : List Str).zip us))
    (a5 : PySem.W.findIn K (.ref C) "begins" = some (some (.ref f5))) (i5 : PySem.W.isFn K (.ref f5) = true) (l5 : K.lookup f5 = some ⟨oc5, od5, .func (PySem.W.fnOf "begins" "Island.begins" (defArgs sBegins) (defBody sBegins) (defScope sBegins) .none kV5 dc5 pm5 an5 cd5 ct5), sl5⟩) (c5 : PySem.W.codeIn K cd5 "Island.begins" = true) (k5 : PySem.W.keepIn K (.ref f5) = true)
    (hb5 : ∀ (kV doc pm : Value) (an : Option Addr) (cdv ct : Value) (us : List Value), us.length = (["self", "k"] : List Str).length → bindArgs (PySem.W.fnOf "begins" "Island.begins" (defArgs sBegins) (defBody sBegins) (defScope sBegins) .none kV doc pm an cdv ct) ⟨us, []⟩ = pure ((["self", "k"] : List Str).zip us))
    (a6 : PySem.W.findIn K (.ref C) "rule" = some (some (.ref f6))) (i6 : PySem.W.isFn K (.ref f6) = true) (l6 : K.lookup f6 = some ⟨oc6, od6, .func (PySem.W.fnOf "rule" "Island.rule" (defArgs sRule) (defBody sRule) (defScope sRule) .none kV6 dc6 pm6 an6 cd6 ct6), sl6⟩) (c6 : PySem.W.codeIn K cd6 "Island.rule" = true) (k6 : PySem.W.keepIn K (.ref f6) = true)
    (hb6 : ∀ (kV doc pm : Value) (an : Option Addr) (cdv ct : Value) (us : List Value), us.length = (["self", "a", "b", "c", "d"] : List Str).length → bindArgs (PySem.W.fnOf "rule" "Island.rule" (defArgs sRule) (defBody sRule) (defScope sRule) .none kV doc pm an cdv ct) ⟨us, []⟩ = pure ((["self", "a", "b", "c", "d"] : List Str).zip us))
    (a7 : PySem.W.findIn K (.ref C) "old" = some (some (.ref f7))) (i7 : PySem.W.isFn K (.ref f7) = true) (l7 : K.lookup f7 = some ⟨oc7, od7, .func (PySem.W.fnOf "old" "Island.old" (defArgs sOld) (defBody sOld) (defScope sOld) .none kV7 dc7 pm7 an7 cd7 ct7), sl7⟩) (c7 : PySem.W.codeIn K cd7 "Island.old" = true) (k7 : PySem.W.keepIn K (.ref f7) = true)
    (hb7 : ∀ (kV doc pm : Value) (an : Option Addr) (cdv ct : Value) (us : List Value), us.length = (["self"] : List Str).length → bindArgs (PySem.W.fnOf "old" "Island.old" (defArgs sOld) (defBody sOld) (defScope sOld) .none kV doc pm an cdv ct) ⟨us, []⟩ = pure ((["self"] : List Str).zip us))
    (a8 : PySem.W.findIn K (.ref C) "are" = some (some (.ref f8))) (i8 : PySem.W.isFn K (.ref f8) = true) (l8 : K.lookup f8 = some ⟨oc8, od8, .func (PySem.W.fnOf "are" "Island.are" (defArgs sAre) (defBody sAre) (defScope sAre) .none kV8 dc8 pm8 an8 cd8 ct8), sl8⟩) (c8 : PySem.W.codeIn K cd8 "Island.are" = true) (k8 : PySem.W.keepIn K (.ref f8) = true)
    (hb8 : ∀ (kV doc pm : Value) (an : Option Addr) (cdv ct : Value) (us : List Value), us.length = (["self", "stand"] : List Str).length → bindArgs (PySem.W.fnOf "are" "Island.are" (defArgs sAre) (defBody sAre) (defScope sAre) .none kV doc pm an cdv ct) ⟨us, []⟩ = pure ((["self", "stand"] : List Str).zip us))
    (a9 : PySem.W.findIn K (.ref C) "meet" = some (some (.ref f9))) (i9 : PySem.W.isFn K (.ref f9) = true) (l9 : K.lookup f9 = some ⟨oc9, od9, .func (PySem.W.fnOf "meet" "Island.meet" (defArgs sMeet) (defBody sMeet) (defScope sMeet) .none kV9 dc9 pm9 an9 cd9 ct9), sl9⟩) (c9 : PySem.W.codeIn K cd9 "Island.meet" = true) (k9 : PySem.W.keepIn K (.ref f9) = true)
    (hb9 : ∀ (kV doc pm : Value) (an : Option Addr) (cdv ct : Value) (us : List Value), us.length = (["self", "a", "b"] : List Str).length → bindArgs (PySem.W.fnOf "meet" "Island.meet" (defArgs sMeet) (defBody sMeet) (defScope sMeet) .none kV doc pm an cdv ct) ⟨us, []⟩ = pure ((["self", "a", "b"] : List Str).zip us))
    (a10 : PySem.W.findIn K (.ref C) "may" = some (some (.ref f10))) (i10 : PySem.W.isFn K (.ref f10) = true) (l10 : K.lookup f10 = some ⟨oc10, od10, .func (PySem.W.fnOf "may" "Island.may" (defArgs sMay) (defBody sMay) (defScope sMay) .none kV10 dc10 pm10 an10 cd10 ct10), sl10⟩) (c10 : PySem.W.codeIn K cd10 "Island.may" = true) (k10 : PySem.W.keepIn K (.ref f10) = true)
    (hb10 : ∀ (kV doc pm : Value) (an : Option Addr) (cdv ct : Value) (us : List Value), us.length = (["self"] : List Str).length → bindArgs (PySem.W.fnOf "may" "Island.may" (defArgs sMay) (defBody sMay) (defScope sMay) .none kV doc pm an cdv ct) ⟨us, []⟩ = pure ((["self"] : List Str).zip us))
    (a11 : PySem.W.findIn K (.ref C) "to" = some (some (.ref f11))) (i11 : PySem.W.isFn K (.ref f11) = true) (l11 : K.lookup f11 = some ⟨oc11, od11, .func (PySem.W.fnOf "to" "Island.to" (defArgs sTo) (defBody sTo) (defScope sTo) .none kV11 dc11 pm11 an11 cd11 ct11), sl11⟩) (c11 : PySem.W.codeIn K cd11 "Island.to" = true) (k11 : PySem.W.keepIn K (.ref f11) = true)
    (hb11 : ∀ (kV doc pm : Value) (an : Option Addr) (cdv ct : Value) (us : List Value), us.length = (["self", "stand"] : List Str).length → bindArgs (PySem.W.fnOf "to" "Island.to" (defArgs sTo) (defBody sTo) (defScope sTo) .none kV doc pm an cdv ct) ⟨us, []⟩ = pure ((["self", "stand"] : List Str).zip us))
    (a12 : PySem.W.findIn K (.ref C) "one" = some (some (.ref f12))) (i12 : PySem.W.isFn K (.ref f12) = true) (l12 : K.lookup f12 = some ⟨oc12, od12, .func (PySem.W.fnOf "one" "Island.one" (defArgs sOne) (defBody sOne) (defScope sOne) .none kV12 dc12 pm12 an12 cd12 ct12), sl12⟩) (c12 : PySem.W.codeIn K cd12 "Island.one" = true) (k12 : PySem.W.keepIn K (.ref f12) = true)
    (hb12 : ∀ (kV doc pm : Value) (an : Option Addr) (cdv ct : Value) (us : List Value), us.length = (["self", "colour"] : List Str).length → bindArgs (PySem.W.fnOf "one" "Island.one" (defArgs sOne) (defBody sOne) (defScope sOne) .none kV doc pm an cdv ct) ⟨us, []⟩ = pure ((["self", "colour"] : List Str).zip us))
    (a13 : PySem.W.findIn K (.ref C) "comes" = some (some (.ref f13))) (i13 : PySem.W.isFn K (.ref f13) = true) (l13 : K.lookup f13 = some ⟨oc13, od13, .func (PySem.W.fnOf "comes" "Island.comes" (defArgs sComes) (defBody sComes) (defScope sComes) .none kV13 dc13 pm13 an13 cd13 ct13), sl13⟩) (c13 : PySem.W.codeIn K cd13 "Island.comes" = true) (k13 : PySem.W.keepIn K (.ref f13) = true)
    (hb13 : ∀ (kV doc pm : Value) (an : Option Addr) (cdv ct : Value) (us : List Value), us.length = (["self"] : List Str).length → bindArgs (PySem.W.fnOf "comes" "Island.comes" (defArgs sComes) (defBody sComes) (defScope sComes) .none kV doc pm an cdv ct) ⟨us, []⟩ = pure ((["self"] : List Str).zip us))
    (a14 : PySem.W.findIn K (.ref C) "rests" = some (some (.ref f14))) (i14 : PySem.W.isFn K (.ref f14) = true) (l14 : K.lookup f14 = some ⟨oc14, od14, .func (PySem.W.fnOf "rests" "Island.rests" (defArgs sRests) (defBody sRests) (defScope sRests) .none kV14 dc14 pm14 an14 cd14 ct14), sl14⟩) (c14 : PySem.W.codeIn K cd14 "Island.rests" = true) (k14 : PySem.W.keepIn K (.ref f14) = true)
    (hb14 : ∀ (kV doc pm : Value) (an : Option Addr) (cdv ct : Value) (us : List Value), us.length = (["self"] : List Str).length → bindArgs (PySem.W.fnOf "rests" "Island.rests" (defArgs sRests) (defBody sRests) (defScope sRests) .none kV doc pm an cdv ct) ⟨us, []⟩ = pure ((["self"] : List Str).zip us))
    (a15 : PySem.W.findIn K (.ref C) "always" = some (some (.ref f15))) (i15 : PySem.W.isFn K (.ref f15) = true) (l15 : K.lookup f15 = some ⟨oc15, od15, .func (PySem.W.fnOf "always" "Island.always" (defArgs sAlways) (defBody sAlways) (defScope sAlways) .none kV15 dc15 pm15 an15 cd15 ct15), sl15⟩) (c15 : PySem.W.codeIn K cd15 "Island.always" = true) (k15 : PySem.W.keepIn K (.ref f15) = true)
    (hb15 : ∀ (kV doc pm : Value) (an : Option Addr) (cdv ct : Value) (us : List Value), us.length = (["self", "stand"] : List Str).length → bindArgs (PySem.W.fnOf "always" "Island.always" (defArgs sAlways) (defBody sAlways) (defScope sAlways) .none kV doc pm an cdv ct) ⟨us, []⟩ = pure ((["self", "stand"] : List Str).zip us))
    (a16 : PySem.W.findIn K (.ref C) "kept" = some (some (.ref f16))) (i16 : PySem.W.isFn K (.ref f16) = true) (l16 : K.lookup f16 = some ⟨oc16, od16, .func (PySem.W.fnOf "kept" "Island.kept" (defArgs sKept) (defBody sKept) (defScope sKept) .none kV16 dc16 pm16 an16 cd16 ct16), sl16⟩) (c16 : PySem.W.codeIn K cd16 "Island.kept" = true) (k16 : PySem.W.keepIn K (.ref f16) = true)
    (hb16 : ∀ (kV doc pm : Value) (an : Option Addr) (cdv ct : Value) (us : List Value), us.length = (["self", "m"] : List Str).length → bindArgs (PySem.W.fnOf "kept" "Island.kept" (defArgs sKept) (defBody sKept) (defScope sKept) .none kV doc pm an cdv ct) ⟨us, []⟩ = pure ((["self", "m"] : List Str).zip us)) (z : ∀ C, PySem.W.nsIn K mainGlobals "Island" = some (some (.ref C)) → ClsAll K C → g) : g :=
  z C aC ⟨⟨pg, hd, po, sa⟩, mk, kc, n0, n1, n2, mt_mk a0 i0 l0 c0 k0 hb0, mt_mk a1 i1 l1 c1 k1 hb1, mt_mk a2 i2 l2 c2 k2 hb2, mt_mk a3 i3 l3 c3 k3 hb3, mt_mk a4 i4 l4 c4 k4 hb4, mt_mk a5 i5 l5 c5 k5 hb5, mt_mk a6 i6 l6 c6 k6 hb6, mt_mk a7 i7 l7 c7 k7 hb7, mt_mk a8 i8 l8 c8 k8 hb8, mt_mk a9 i9 l9 c9 k9 hb9, mt_mk a10 i10 l10 c10 k10 hb10, mt_mk a11 i11 l11 c11 k11 hb11, mt_mk a12 i12 l12 c12 k12 hb12, mt_mk a13 i13 l13 c13 k13 hb13, mt_mk a14 i14 l14 c14 k14 hb14, mt_mk a15 i15 l15 c15 k15 hb15, mt_mk a16 i16 l16 c16 k16 hb16⟩
theorem all_of {P : Program} {w : World} {K : PySem.W.Frag} {mg : Str → Option Value} {fa C : Addr} (hfa : mg "answers" = some (.ref fa)) (mC : mg "Island" = some (.ref C)) (A : ClsAll K C) (B : Blt mg)
    (n0 : Num mg "OLD_COLOURS" 3) (n1 : Num mg "FEWEST_COLOURS" 2) (n2 : Num mg "MOST_COLOURS" 4) (n3 : Num mg "MOST_TOGETHER" 7) (n4 : Num mg "NO_SUCH" (-1)) (n5 : Num mg "NOT_THERE" (-2)) (n6 : Num mg "NO_CHANGE" (-4)) (n7 : Num mg "CANNOT_BE" (-6)) (n8 : Num mg "LEAST_DIVISOR" 2) (n9 : Num mg "GREATEST_DIVISOR" 9)
    (N : Nums K mg) (D : Defs K mg) (dE : ∃ f fd, Def K mg "end_of_call" sEnd ["calls", "at"] f fd) (dT : ∃ f fd, Def K mg "answer_to" sAnsTo ["island", "number", "told"] f fd) (dA : ∃ f fd, Def K mg "answers" sAns ["calls"] f fd) :
    ∃ fd : FuncData, (∀ (s : Shared) (us : List Value), us.length = (["calls"] : List Str).length → BindsTo s fd ⟨us, []⟩ ((["calls"] : List Str).zip us)) ∧ ∀ base : Heap, K.In base → base.Ns mainGlobals mg → FnOk P w K mg base CX0 7 fa fd ["calls"] (spAns K) := by
  obtain ⟨fA, fdA, DA⟩ := dA
  obtain ⟨fE, fdE, DE⟩ := dE
  obtain ⟨fT, fdT, DT⟩ := dT
  have e := hfa.symm.trans DA.m
  cases e
  have T : Txt K mg C := ⟨A.cl, A.n0, A.n1, A.n2, mC, B, n0, n1, n2, n3, n4, n5, n6, n7, n8, n9⟩
  have M : Mts K C := ⟨A.m1, A.m2, A.m3, A.m4, A.m5, A.m6, A.m7, A.m8, A.m9, A.m10, A.m11, A.m12, A.m13, A.m14, A.m15, A.m16⟩
  obtain ⟨fI, fdI, MI⟩ := A.m0
  refine ⟨fdA, fun s us hu => ?_, fun base _ _ => ok_ans (k := 6) (by decide) DA.fn T ⟨A.mkC, MI.m.at_, MI.m.fn, A.kc⟩ MI.fn MI.b (ok_init MI.fn T D) DE (ok_end DE.fn N) DT (ok_ansTo DT.fn T D N M)⟩
  obtain ⟨oc, od, kV, doc, pm, an, cdv, ct, osl, rfl, lk, hcd⟩ := DA.fn.ex
  exact match us, hu with | [_], _ => .of_eq rfl
end Isl
open PySem PySem.W PyProof.Rows
set_option maxRecDepth 100000 in
set_option maxHeartbeats 0 in
theorem PySem.Challenge.cw_chameleons_s01_answers_holds : PySem.Challenge.rw_chameleons_s01_answers.Holds :=
  by
  w_on; k_headS; (case hw => exact ⟨[.list [.int 2]], by decide +kernel, by decide +kernel⟩)
  k_fillS
  refine L2.walk_specK (r := PySem.Challenge.rw_chameleons_s01_answers) (k := 7) (CX := L2.CX0) (ps := ["calls"]) (sp := Isl.spAns) (by decide +kernel) rfl rfl ⟨rfl, by decide, by decide⟩ (fun w h Y => PySem.W.kIn_of Y) ?F ?S (fun _ _ _ _ z => z)
  case F =>
    intro w mg fa h Y KX G hmg
    refine' Isl.with_def (x := "in_order") (st := Isl.sOrd) (ps := ["a", "b"]) KX G ?da0 ?dl0 ?dc0 ?dk0 (fun _ _ _ _ _ _ us hl => match us, hl with | [_, _], _ => rfl) ?dz0
    (case da0 => k_is); (case dl0 => k_is); (case dc0 => k_is); (case dk0 => k_is)
    intro d0
    refine' Isl.with_def (x := "pairs_of") (st := Isl.sPairs) (ps := ["colours"]) KX G ?da1 ?dl1 ?dc1 ?dk1 (fun _ _ _ _ _ _ us hl => match us, hl with | [_], _ => rfl) ?dz1
    (case da1 => k_is); (case dl1 => k_is); (case dc1 => k_is); (case dk1 => k_is)
    intro d1
    refine' Isl.with_def (x := "unchanging_rule") (st := Isl.sUnch) (ps := ["colours"]) KX G ?da2 ?dl2 ?dc2 ?dk2 (fun _ _ _ _ _ _ us hl => match us, hl with | [_], _ => rfl) ?dz2
    (case da2 => k_is); (case dl2 => k_is); (case dc2 => k_is); (case dk2 => k_is)
    intro d2
    refine' Isl.with_def (x := "old_rule") (st := Isl.sOldR) (ps := []) KX G ?da3 ?dl3 ?dc3 ?dk3 (fun _ _ _ _ _ _ us hl => match us, hl with | [], _ => rfl) ?dz3
    (case da3 => k_is); (case dl3 => k_is); (case dc3 => k_is); (case dk3 => k_is)
    intro d3
    refine' Isl.with_def (x := "are_there") (st := Isl.sThere) (ps := ["stand", "pair"]) KX G ?da4 ?dl4 ?dc4 ?dk4 (fun _ _ _ _ _ _ us hl => match us, hl with | [_, _], _ => rfl) ?dz4
    (case da4 => k_is); (case dl4 => k_is); (case dc4 => k_is); (case dk4 => k_is)
    intro d4
    refine' Isl.with_def (x := "stand_behind") (st := Isl.sBehind) (ps := ["stand", "pair", "changed"]) KX G ?da5 ?dl5 ?dc5 ?dk5 (fun _ _ _ _ _ _ us hl => match us, hl with | [_, _, _], _ => rfl) ?dz5
    (case da5 => k_is); (case dl5 => k_is); (case dc5 => k_is); (case dk5 => k_is)
    intro d5
    refine' Isl.with_def (x := "possible_meetings") (st := Isl.sPoss) (ps := ["becomes", "stand"]) KX G ?da6 ?dl6 ?dc6 ?dk6 (fun _ _ _ _ _ _ us hl => match us, hl with | [_, _], _ => rfl) ?dz6
    (case da6 => k_is); (case dl6 => k_is); (case dc6 => k_is); (case dk6 => k_is)
    intro d6
    refine' Isl.with_def (x := "told_meetings") (st := Isl.sTold) (ps := ["meetings"]) KX G ?da7 ?dl7 ?dc7 ?dk7 (fun _ _ _ _ _ _ us hl => match us, hl with | [_], _ => rfl) ?dz7
    (case da7 => k_is); (case dl7 => k_is); (case dc7 => k_is); (case dk7 => k_is)
    intro d7
    refine' Isl.with_def (x := "first_ways") (st := Isl.sWays) (ps := ["becomes", "stand"]) KX G ?da8 ?dl8 ?dc8 ?dk8 (fun _ _ _ _ _ _ us hl => match us, hl with | [_, _], _ => rfl) ?dz8
    (case da8 => k_is); (case dl8 => k_is); (case dc8 => k_is); (case dk8 => k_is)
    intro d8
    refine' Isl.with_def (x := "stands_ahead") (st := Isl.sAhead) (ps := ["becomes", "stands"]) KX G ?da9 ?dl9 ?dc9 ?dk9 (fun _ _ _ _ _ _ us hl => match us, hl with | [_, _], _ => rfl) ?dz9
    (case da9 => k_is); (case dl9 => k_is); (case dc9 => k_is); (case dk9 => k_is)
    intro d9
    refine' Isl.with_def (x := "stands_leading_to") (st := Isl.sLead) (ps := ["ahead", "wanted"]) KX G ?da10 ?dl10 ?dc10 ?dk10 (fun _ _ _ _ _ _ us hl => match us, hl with | [_, _], _ => rfl) ?dz10
    (case da10 => k_is); (case dl10 => k_is); (case dc10 => k_is); (case dk10 => k_is)
    intro d10
    refine' Isl.with_def (x := "rows_of_weights") (st := Isl.sRows) (ps := ["colours", "m"]) KX G ?da11 ?dl11 ?dc11 ?dk11 (fun _ _ _ _ _ _ us hl => match us, hl with | [_, _], _ => rfl) ?dz11
    (case da11 => k_is); (case dl11 => k_is); (case dc11 => k_is); (case dk11 => k_is)
    intro d11
    refine' Isl.with_def (x := "are_kept") (st := Isl.sKeptR) (ps := ["becomes", "weights", "m"]) KX G ?da12 ?dl12 ?dc12 ?dk12 (fun _ _ _ _ _ _ us hl => match us, hl with | [_, _, _], _ => rfl) ?dz12
    (case da12 => k_is); (case dl12 => k_is); (case dc12 => k_is); (case dk12 => k_is)
    intro d12
    refine' Isl.with_def (x := "end_of_call") (st := Isl.sEnd) (ps := ["calls", "at"]) KX G ?da13 ?dl13 ?dc13 ?dk13 (fun _ _ _ _ _ _ us hl => match us, hl with | [_, _], _ => rfl) ?dz13
    (case da13 => k_is); (case dl13 => k_is); (case dc13 => k_is); (case dk13 => k_is)
    intro d13
    refine' Isl.with_def (x := "answer_to") (st := Isl.sAnsTo) (ps := ["island", "number", "told"]) KX G ?da14 ?dl14 ?dc14 ?dk14 (fun _ _ _ _ _ _ us hl => match us, hl with | [_, _, _], _ => rfl) ?dz14
    (case da14 => k_is); (case dl14 => k_is); (case dc14 => k_is); (case dk14 => k_is)
    intro d14
    refine' Isl.with_def (x := "answers") (st := Isl.sAns) (ps := ["calls"]) KX G ?da15 ?dl15 ?dc15 ?dk15 (fun _ _ _ _ _ _ us hl => match us, hl with | [_], _ => rfl) ?dz15
    (case da15 => k_is); (case dl15 => k_is); (case dc15 => k_is); (case dk15 => k_is)
    intro d15
    refine' Isl.with_cls KX ?aC ?pg ?hd ?po ?sa ?mk ?kc ?n0 ?n1 ?n2 ?a0 ?i0 ?l0 ?c0 ?k0 (fun _ _ _ _ _ _ us hl => match us, hl with | [_], _ => rfl) ?a1 ?i1 ?l1 ?c1 ?k1 (fun _ _ _ _ _ _ us hl => match us, hl with | [_, _], _ => rfl) ?a2 ?i2 ?l2 ?c2 ?k2 (fun _ _ _ _ _ _ us hl => match us, hl with | [_], _ => rfl) ?a3 ?i3 ?l3 ?c3 ?k3 (fun _ _ _ _ _ _ us hl => match us, hl with | [_, _], _ => rfl) ?a4 ?i4 ?l4 ?c4 ?k4 (fun _ _ _ _ _ _ us hl => match us, hl with | [_, _], _ => rfl) ?a5 ?i5 ?l5 ?c5 ?k5 (fun _ _ _ _ _ _ us hl => match us, hl with | [_, _], _ => rfl) ?a6 ?i6 ?l6 ?c6 ?k6 (fun _ _ _ _ _ _ us hl => match us, hl with | [_, _, _, _, _], _ => rfl) ?a7 ?i7 ?l7 ?c7 ?k7 (fun _ _ _ _ _ _ us hl => match us, hl with | [_], _ => rfl) ?a8 ?i8 ?l8 ?c8 ?k8 (fun _ _ _ _ _ _ us hl => match us, hl with | [_, _], _ => rfl) ?a9 ?i9 ?l9 ?c9 ?k9 (fun _ _ _ _ _ _ us hl => match us, hl with | [_, _, _], _ => rfl) ?a10 ?i10 ?l10 ?c10 ?k10 (fun _ _ _ _ _ _ us hl => match us, hl with | [_], _ => rfl) ?a11 ?i11 ?l11 ?c11 ?k11 (fun _ _ _ _ _ _ us hl => match us, hl with | [_, _], _ => rfl) ?a12 ?i12 ?l12 ?c12 ?k12 (fun _ _ _ _ _ _ us hl => match us, hl with | [_, _], _ => rfl) ?a13 ?i13 ?l13 ?c13 ?k13 (fun _ _ _ _ _ _ us hl => match us, hl with | [_], _ => rfl) ?a14 ?i14 ?l14 ?c14 ?k14 (fun _ _ _ _ _ _ us hl => match us, hl with | [_], _ => rfl) ?a15 ?i15 ?l15 ?c15 ?k15 (fun _ _ _ _ _ _ us hl => match us, hl with | [_, _], _ => rfl) ?a16 ?i16 ?l16 ?c16 ?k16 (fun _ _ _ _ _ _ us hl => match us, hl with | [_, _], _ => rfl) ?zc
    (case aC => k_is); (case pg => k_is); (case hd => k_is); (case po => k_is); (case sa => k_is)
    (case mk => k_is); (case kc => k_is); (case n0 => k_is); (case n1 => k_is); (case n2 => k_is)
    (case a0 => k_is); (case i0 => k_is); (case l0 => k_is); (case c0 => k_is); (case k0 => k_is)
    (case a1 => k_is); (case i1 => k_is); (case l1 => k_is); (case c1 => k_is); (case k1 => k_is)
    (case a2 => k_is); (case i2 => k_is); (case l2 => k_is); (case c2 => k_is); (case k2 => k_is)
    (case a3 => k_is); (case i3 => k_is); (case l3 => k_is); (case c3 => k_is); (case k3 => k_is)
    (case a4 => k_is); (case i4 => k_is); (case l4 => k_is); (case c4 => k_is); (case k4 => k_is)
    (case a5 => k_is); (case i5 => k_is); (case l5 => k_is); (case c5 => k_is); (case k5 => k_is)
    (case a6 => k_is); (case i6 => k_is); (case l6 => k_is); (case c6 => k_is); (case k6 => k_is)
    (case a7 => k_is); (case i7 => k_is); (case l7 => k_is); (case c7 => k_is); (case k7 => k_is)
    (case a8 => k_is); (case i8 => k_is); (case l8 => k_is); (case c8 => k_is); (case k8 => k_is)
    (case a9 => k_is); (case i9 => k_is); (case l9 => k_is); (case c9 => k_is); (case k9 => k_is)
    (case a10 => k_is); (case i10 => k_is); (case l10 => k_is); (case c10 => k_is); (case k10 => k_is)
    (case a11 => k_is); (case i11 => k_is); (case l11 => k_is); (case c11 => k_is); (case k11 => k_is)
    (case a12 => k_is); (case i12 => k_is); (case l12 => k_is); (case c12 => k_is); (case k12 => k_is)
    (case a13 => k_is); (case i13 => k_is); (case l13 => k_is); (case c13 => k_is); (case k13 => k_is)
    (case a14 => k_is); (case i14 => k_is); (case l14 => k_is); (case c14 => k_is); (case k14 => k_is)
    (case a15 => k_is); (case i15 => k_is); (case l15 => k_is); (case c15 => k_is); (case k15 => k_is)
    (case a16 => k_is); (case i16 => k_is); (case l16 => k_is); (case c16 => k_is); (case k16 => k_is)
    intro C eC A
    refine' Isl.with_num (x := "OLD_COLOURS") (n := 3) KX G ?na0 ?nz0
    (case na0 => k_is)
    intro n0
    refine' Isl.with_num (x := "FEWEST_COLOURS") (n := 2) KX G ?na1 ?nz1
    (case na1 => k_is)
    intro n1
    refine' Isl.with_num (x := "MOST_COLOURS") (n := 4) KX G ?na2 ?nz2
    (case na2 => k_is)
    intro n2
    refine' Isl.with_num (x := "MOST_TOGETHER") (n := 7) KX G ?na3 ?nz3
    (case na3 => k_is)
    intro n3
    refine' Isl.with_num (x := "NO_SUCH") (n := -1) KX G ?na4 ?nz4
    (case na4 => k_is)
    intro n4
    refine' Isl.with_num (x := "NOT_THERE") (n := -2) KX G ?na5 ?nz5
    (case na5 => k_is)
    intro n5
    refine' Isl.with_num (x := "NO_CHANGE") (n := -4) KX G ?na6 ?nz6
    (case na6 => k_is)
    intro n6
    refine' Isl.with_num (x := "CANNOT_BE") (n := -6) KX G ?na7 ?nz7
    (case na7 => k_is)
    intro n7
    refine' Isl.with_num (x := "LEAST_DIVISOR") (n := 2) KX G ?na8 ?nz8
    (case na8 => k_is)
    intro n8
    refine' Isl.with_num (x := "GREATEST_DIVISOR") (n := 9) KX G ?na9 ?nz9
    (case na9 => k_is)
    intro n9
    refine' Isl.with_num (x := "BEGINS") (n := 0) KX G ?na10 ?nz10
    (case na10 => k_is)
    intro n10
    refine' Isl.with_num (x := "RULE") (n := 1) KX G ?na11 ?nz11
    (case na11 => k_is)
    intro n11
    refine' Isl.with_num (x := "OLD") (n := 2) KX G ?na12 ?nz12
    (case na12 => k_is)
    intro n12
    refine' Isl.with_num (x := "ARE") (n := 3) KX G ?na13 ?nz13
    (case na13 => k_is)
    intro n13
    refine' Isl.with_num (x := "MEET") (n := 4) KX G ?na14 ?nz14
    (case na14 => k_is)
    intro n14
    refine' Isl.with_num (x := "MAY") (n := 5) KX G ?na15 ?nz15
    (case na15 => k_is)
    intro n15
    refine' Isl.with_num (x := "TO") (n := 6) KX G ?na16 ?nz16
    (case na16 => k_is)
    intro n16
    refine' Isl.with_num (x := "ONE") (n := 7) KX G ?na17 ?nz17
    (case na17 => k_is)
    intro n17
    refine' Isl.with_num (x := "COMES") (n := 8) KX G ?na18 ?nz18
    (case na18 => k_is)
    intro n18
    refine' Isl.with_num (x := "RESTS") (n := 9) KX G ?na19 ?nz19
    (case na19 => k_is)
    intro n19
    refine' Isl.with_num (x := "ALWAYS") (n := 10) KX G ?na20 ?nz20
    (case na20 => k_is)
    intro n20
    refine' Isl.with_blt (x := "range") KX G ?ba0 ?bz0
    (case ba0 => k_is)
    intro b0
    refine' Isl.with_blt (x := "len") KX G ?ba1 ?bz1
    (case ba1 => k_is)
    intro b1
    refine' Isl.with_blt (x := "list") KX G ?ba2 ?bz2
    (case ba2 => k_is)
    intro b2
    refine' Isl.with_blt (x := "sum") KX G ?ba3 ?bz3
    (case ba3 => k_is)
    intro b3
    refine' Isl.with_blt (x := "tuple") KX G ?ba4 ?bz4
    (case ba4 => k_is)
    intro b4
    refine' Isl.with_blt (x := "min") KX G ?ba5 ?bz5
    (case ba5 => k_is)
    intro b5
    refine' Isl.with_blt (x := "max") KX G ?ba6 ?bz6
    (case ba6 => k_is)
    intro b6
    refine' Isl.with_tup (x := "NUMBERS_BEHIND") KX G ?ta ?tl ?tv ?ts ?tz
    (case ta => k_is); (case tl => k_is)
    (case tv => exact .cons ⟨_, rfl⟩ (.cons ⟨_, rfl⟩ (.cons ⟨_, rfl⟩ (.cons ⟨_, rfl⟩ (.cons ⟨_, rfl⟩ (.cons ⟨_, rfl⟩ (.cons ⟨_, rfl⟩ (.cons ⟨_, rfl⟩ (.cons ⟨_, rfl⟩ (.cons ⟨_, rfl⟩ (.cons ⟨_, rfl⟩ (.cons ⟨_, rfl⟩ .nil))))))))))))
    (case ts => decide)
    intro tN
    exact Isl.all_of hmg (PySem.W.mg_of KX G eC) A ⟨b0, b1, b2, b3, b4, b5, b6⟩ n0 n1 n2 n3 n4 n5 n6 n7 n8 n9 ⟨n10, n11, n12, n13, n14, n15, n16, n17, n18, n19, n20, tN⟩ ⟨d0, d1, d2, d3, d4, d5, d6, d7, d8, d9, d10, d11, d12⟩ d13 d14 d15
  case S =>
    intro K H xs a hO hwi hask hx
    cases hx with
    | cons h1 h2 =>
      cases h2
      cases h1 with
      | lst hs ha =>
        have e := L2.ints_dw a.1 _ ha
        subst e
        exact ⟨_, a.1, rfl, hs, (fun b kvs q => by rcases hO b with e | ⟨o, u, e⟩ <;> rw [e] at q <;> cases q), hask, fun H' p hp => .lst (L2.SqL.of hp) (L2.dw_ints _)⟩

