import PyProof.Rows.All
import Wide.All
import OpenK.AllK
import Wide.FinOn
import Lean
import PyProof.EqAt
import PyProof.EqKinds
import PyProof.TupleCall
import PySem.Challenge.RW_combstrip_k09_shape_steps
set_option Elab.async false
set_option linter.all false
set_option maxRecDepth 100000
/-! THE HAND LAYER, for ints, bools, texts, own classes, DICTS (int and text keys), calls, loops. Paste it whole ahead of your own text; what your proof does not reach may be deleted. -/
namespace L2
open PySem PySem.Spec PyProof.Rows

/-- a key: an int or a str -/
abbrev Key := Sum Int Str
def keyIs : Key → Value → Bool
  | .inl k, v => Value.isInt k v
  | .inr x, v => Value.isStrOf x v
def keyH (w : World) : Key → Int
  | .inl k => hashInt k
  | .inr x => hashStr w x
theorem keyIs_shape : ∀ {k : Key} {v : Value}, keyIs k v = true → (∃ i t, k = Sum.inl i ∧ v = Value.int i t) ∨ (∃ x t, k = Sum.inr x ∧ v = Value.str x t)
  | .inl i, v, h => by
    obtain ⟨t, e⟩ := Value.isInt_shape (k := i) (v := v) h
    exact .inl ⟨i, t, rfl, e⟩
  | .inr x, v, h => by
    obtain ⟨t, e⟩ := Value.isStrOf_shape (x := x) (v := v) h
    exact .inr ⟨x, t, rfl, e⟩
theorem keyIs_int (i : Int) (t : Tok) : keyIs (.inl i) (.int i t) = true := by simp [keyIs, Value.isInt]
theorem keyIs_str (x : Str) (t : Tok) : keyIs (.inr x) (.str x t) = true := by simp [keyIs, Value.isStrOf]
theorem key_ll (a b : Int) : decide ((Sum.inl a : Key) = Sum.inl b) = (a == b) := by
  by_cases e : a = b
  · subst e; simp
  · have h : ¬ (Sum.inl a : Key) = Sum.inl b := fun q => e (Sum.inl.inj q)
    rw [decide_eq_false h]
    exact (beq_eq_false_iff_ne.mpr e).symm
theorem key_rr (a b : Str) : decide ((Sum.inr a : Key) = Sum.inr b) = decide (a = b) := by
  by_cases e : a = b
  · subst e; simp
  · have h : ¬ (Sum.inr a : Key) = Sum.inr b := fun q => e (Sum.inr.inj q)
    rw [decide_eq_false h, decide_eq_false e]
theorem key_lr (a : Int) (b : Str) : decide ((Sum.inl a : Key) = Sum.inr b) = false := decide_eq_false (fun q => nomatch q)
theorem key_rl (a : Str) (b : Int) : decide ((Sum.inr a : Key) = Sum.inl b) = false := decide_eq_false (fun q => nomatch q)

def mixKind (prog : Program) (w : World) : PySem.KeyKind prog w Key where
  is := keyIs
  hash := keyH w
  inj := fun v a b ha hb => by
    rcases keyIs_shape ha with ⟨i, t, rfl, rfl⟩ | ⟨x, t, rfl, rfl⟩
    · rcases keyIs_shape hb with ⟨j, u, rfl, e⟩ | ⟨y, u, rfl, e⟩
      · injection e with e1 _; rw [e1]
      · exact nomatch e
    · rcases keyIs_shape hb with ⟨j, u, rfl, e⟩ | ⟨y, u, rfl, e⟩
      · exact nomatch e
      · injection e with e1 _; rw [e1]
  byValue := fun k v h => by
    rcases keyIs_shape h with ⟨i, t, rfl, rfl⟩ | ⟨x, t, rfl, rfl⟩ <;> rfl
  pyHash := fun hv h => by
    rcases keyIs_shape hv with ⟨i, t, rfl, rfl⟩ | ⟨x, t, rfl, rfl⟩
    · exact wpAny_pyHash_int h
    · exact wpAny_pyHash_str h
  eqBool := fun hu hv h => by
    rcases keyIs_shape hu with ⟨i, t, rfl, rfl⟩ | ⟨x, t, rfl, rfl⟩
    · rcases keyIs_shape hv with ⟨j, u, rfl, rfl⟩ | ⟨y, u, rfl, rfl⟩
      · rw [key_ll] at h; exact wpAny_eqBool_int h
      · rw [key_lr] at h; exact SeqAt.EqAt.int_str i t y u _ _ _ _ h
    · rcases keyIs_shape hv with ⟨j, u, rfl, rfl⟩ | ⟨y, u, rfl, rfl⟩
      · rw [key_rl] at h; exact SeqAt.EqAt.str_int x t j u _ _ _ _ h
      · rw [key_rr] at h; exact wpAny_eqBool_str h
  «strs» := fun k x t v h => by
    rcases keyIs_shape h with ⟨i, u, rfl, e⟩ | ⟨y, u, rfl, e⟩
    · exact nomatch e
    · injection e with e1 _
      subst e1
      cases v <;> rfl

theorem mixKind_int (prog : Program) (w : World) (i : Int) (t : Tok) : (mixKind prog w).is (.inl i) (.int i t) = true := keyIs_int i t
theorem mixKind_str (prog : Program) (w : World) (x : Str) (t : Tok) : (mixKind prog w).is (.inr x) (.str x t) = true := keyIs_str x t
end L2

namespace L2
open PySem PySem.Spec PyProof.Rows

/-- a value, without the heap -/
inductive V where
  | non | bl (b : Bool) | int (i : Int) | str (x : Str) | byt (b : Array UInt8) | flt (b : UInt64) | ref (a : Addr) | ty (n : String)
  deriving DecidableEq

def RelV : V → Value → Prop
  | .non, u => u = Value.none
  | .bl b, u => u = Value.bool b
  | .int i, u => ∃ t, u = Value.int i t
  | .str x, u => ∃ t, u = Value.str x t
  | .byt b, u => ∃ t, u = Value.bytes b t
  | .flt b, u => ∃ t, u = Value.float b t
  | .ref a, u => u = Value.ref a
  | .ty n, u => u = Value.type n

abbrev Vals : List V → List Value → Prop := Paired RelV
theorem Vals.length {xs : List V} {us : List Value} (r : Vals xs us) : xs.length = us.length := Paired.length r
theorem Vals.get : ∀ {xs : List V} {us : List Value} {i : Nat} {x : V}, Vals xs us → xs[i]? = some x → ∃ u, us[i]? = some u ∧ RelV x u
  | _, _, _, _, .nil, e => by simp at e
  | _, _, 0, _, .cons r _, e => by simp at e; subst e; exact ⟨_, rfl, r⟩
  | _, _, i + 1, x, .cons _ t, e => by
    obtain ⟨u, h1, h2⟩ := Vals.get (i := i) (x := x) t (by simpa using e)
    exact ⟨u, by simpa using h1, h2⟩
theorem Vals.set {x : V} {u : Value} (r : RelV x u) : ∀ {xs : List V} {us : List Value} (i : Nat), Vals xs us → Vals (xs.set i x) (us.set i u)
  | _, _, _, .nil => .nil
  | _, _, 0, .cons _ t => .cons r t
  | _, _, i + 1, .cons q t => .cons q (Vals.set r i t)
theorem Vals.append : ∀ {xs ys : List V} {us ws : List Value}, Vals xs us → Vals ys ws → Vals (xs ++ ys) (us ++ ws)
  | _, _, _, _, .nil, s => s
  | _, _, _, _, .cons r t, s => .cons r (Vals.append t s)
theorem Vals.take : ∀ {xs : List V} {us : List Value} (n : Nat), Vals xs us → Vals (xs.take n) (us.take n)
  | _, _, 0, _ => .nil
  | _, _, _ + 1, .nil => .nil
  | _, _, n + 1, .cons r t => .cons r (Vals.take n t)
theorem Vals.none_of : ∀ {xs : List V} {us : List Value} {i : Nat}, Vals xs us → xs[i]? = none → us[i]? = none := fun {xs us i} r e => by
  have h1 := r.length
  have h2 : xs.length ≤ i := List.getElem?_eq_none_iff.mp e
  exact List.getElem?_eq_none_iff.mpr (by omega)

def RelO : Option V → Option Value → Prop
  | some v, some u => RelV v u
  | none, none => True
  | _, _ => False
def KV {κ : Type} : List (κ × V) → List (κ × Value) → Prop := Paired fun (p : κ × V) (q : κ × Value) => p.1 = q.1 ∧ RelV p.2 q.2

/-- a key of a dict (00_mix): an int or a text -/
def kV : Key → V
  | .inl i => .int i
  | .inr x => .str x

/-- what stands at a tracked address -/
inductive HO where
  /-- a list -/
  | lst (xs : List V)
  /-- a tuple (never changes) -/
  | tup (xs : List V)
  /-- a dict whose keys are ints and texts; one whose keys are tuples of ints and texts (the empty one is both) -/
  | dK (kvs : List (Key × V)) | dT (kvs : List (List Key × V))
  /-- a set of ints: its members, its size -/
  | set (S : Int → Bool) (n : Nat)
  /-- an instance of the class at C, its dict at dx, its attributes -/
  | ins (C dx : Addr) (fs : List (Str × V))
  /-- the dict of the instance at x -/
  | own (x : Addr)
  /-- the dict of an exception -/
  | xd (fs : List (Str × V))
  /-- a bound method, f of x -/
  | met (f x : Addr)
  /-- a range object lo, lo + 1, .. below hi -/
  | rng (lo hi : Int)
  /-- a thing that is known to the object (the script; a dict while a loop walks it): read, never written while it is so -/
  | frz (o : Obj) (u : HO)
  /-- a code object's table -/
  | tbl (ps : Array Value)
  /-- any other thing, by what is true of its one object (a def of one's own: SetO a S n := HO.ext fun h => ..) -/
  | ext (φ : Heap → Prop)

abbrev Hp := Addr → Option HO
def upd (H : Hp) (a : Addr) (o : HO) : Hp := fun b => if b = a then some o else H b
theorem upd_same {H : Hp} {a : Addr} {o : HO} : upd H a o a = some o := by unfold upd; rw [if_pos rfl]
theorem upd_ne {H : Hp} {a b : Addr} {o : HO} (h : b ≠ a) : upd H a o b = H b := by unfold upd; rw [if_neg h]
/-- two objects of different content stand apart -/
theorem ne_of {H : Hp} {a b : Addr} {o u : HO} (h : H a = some o) (h' : H b = some u) (d : o ≠ u) : a ≠ b := by
  intro e; subst e; rw [h] at h'; exact d (Option.some.inj h')
theorem ne_of_none {H : Hp} {a b : Addr} {o : HO} (h : H a = some o) (h' : H b = none) : a ≠ b := by
  intro e; subst e; rw [h] at h'; cases h'

section
variable (P : Program) (w : World)
def ObjOk (H : Hp) (h : Heap) (a : Addr) : HO → Prop
  | .lst xs => xs.length ≤ sizeLine ∧ ∃ (its : List Value) (n : Nat), Vals xs its ∧ h.get? a = some { cls := .type "list", data := .seq its.toArray n }
  | .tup xs => xs.length ≤ sizeLine ∧ ∃ its : List Value, Vals xs its ∧ IsTup h a its.toArray
  | .dK kvs => kvs.length ≤ sizeLine ∧ (a == sysModules) = false ∧ ∃ vs, KV kvs vs ∧ h.DictOf (mixKind P w) a vs
  | .dT kvs => kvs.length ≤ sizeLine ∧ (a == sysModules) = false ∧ ∃ xs : List (List Key × Addr × Value),
      Paired (fun (p : List Key × V) (q : List Key × Addr × Value) => p.1 = q.1 ∧ H q.2.1 = some (.tup (p.1.map kV)) ∧ RelV p.2 q.2.2) kvs xs ∧
      ∃ o es ep, h.get? a = some o ∧ o.ExactDict ∧ o.data = .dict es ep ∧ es.toList = xs.map (entryOfKey (tupleKind (mixKind P w))) ∧ (xs.map (·.1)).Nodup
  | .set S n => h.SetOf (intKind P w) a S n
  | .ins C dx fs => H dx = some (.own a) ∧ fs.length ≤ 1000 ∧ dx ≠ a ∧ h.get? a = some (PySem.W.instObj C dx) ∧
      ∃ mA, h.Ns1 dx mA ∧ (∀ f, RelO (fs.lookup f) (mA f)) ∧ PySem.Within mA (fs.map (·.1))
  | .own _ => ∃ o, h.get? a = some o
  | .xd fs => ∃ mA, h.Ns1 a mA ∧ ∀ f, RelO (fs.lookup f) (mA f)
  | .rng lo hi => ∃ t u v, h.get? a = some { cls := .type "range", data := .fields #[.int lo t, .int hi u, .int 1 v] }
  | .frz o u => h.get? a = some o ∧ ObjOk H h a u
  | .tbl ps => h.get? a = some { cls := .none, data := .fields ps }
  | .met f x => h.get? a = some (PySem.W.methodObj (.ref f) (.ref x))
  | .ext φ => φ h ∧ (∃ o, h.get? a = some o) ∧ ∀ h1 h2 : Heap, φ h1 → (∀ o, h1.get? a = some o → h2.get? a = some o) → φ h2
/-- the abstract heap is held -/
def HOk (H : Hp) (h : Heap) : Prop := ∀ a o, H a = some o → ObjOk P w H h a o
end

section
variable {P : Program} {w : World} {H H' : Hp} {h h' : Heap} {a : Addr} {o : HO}
theorem ObjOk.lt (x : ObjOk P w H h a o) : a < h.objs.size := by
  cases o with
  | lst xs => obtain ⟨_, _, _, _, e⟩ := x; exact Heap.lt_size e
  | tup xs => obtain ⟨_, _, _, p⟩ := x; exact p.lt
  | dK kvs => obtain ⟨_, _, _, _, o, _, _, e, _⟩ := x; exact Heap.lt_size e
  | dT kvs => obtain ⟨_, _, _, _, o, _, _, e, _⟩ := x; exact Heap.lt_size e
  | set S n => obtain ⟨o, _, _, _, e, _⟩ := x; exact Heap.lt_size e
  | ins C dx fs => obtain ⟨_, _, _, e, _⟩ := x; exact Heap.lt_size e
  | own y => obtain ⟨_, e⟩ := x; exact Heap.lt_size e
  | xd fs => obtain ⟨_, ⟨_, _, _, e, _⟩, _⟩ := x; exact Heap.lt_size e
  | rng lo hi => obtain ⟨_, _, _, e⟩ := x; exact Heap.lt_size e
  | frz ob u => obtain ⟨e, _⟩ := x; exact Heap.lt_size e
  | tbl ps => exact Heap.lt_size (show h.get? a = some _ from x)
  | met f y => exact Heap.lt_size (show h.get? a = some _ from x)
  | ext φ => obtain ⟨_, ⟨_, e⟩, _⟩ := x; exact Heap.lt_size e
theorem Paired.mapP {α β : Type} {F G : α → β → Prop} : ∀ {l₁ : List α} {l₂ : List β}, Paired F l₁ l₂ → (∀ a b, F a b → G a b) → Paired G l₁ l₂
  | _, _, .nil, _ => .nil
  | _, _, .cons r t, f => .cons (f _ _ r) (Paired.mapP t f)
/-- what an object's description leans on: its own object, its own dict, the tuples -/
theorem ObjOk.stay (x : ObjOk P w H h a o) (k : ∀ b u, (b = a ∨ H b = some (.own a)) → h.get? b = some u → h'.get? b = some u)
    (ho : ∀ b, H b = some (.own a) → H' b = some (.own a)) (ht : ∀ b xs, H b = some (.tup xs) → H' b = some (.tup xs)) : ObjOk P w H' h' a o := by
  induction o with
  | lst xs => obtain ⟨z, its, n, r, e⟩ := x; exact ⟨z, its, n, r, k _ _ (.inl rfl) e⟩
  | tup xs => obtain ⟨z, its, r, ob, e, c⟩ := x; exact ⟨z, its, r, ob, k _ _ (.inl rfl) e, c⟩
  | dK kvs => obtain ⟨z, y, vs, r, ob, es, ep, e, c⟩ := x; exact ⟨z, y, vs, r, ob, es, ep, k _ _ (.inl rfl) e, c⟩
  | dT kvs =>
    obtain ⟨z, y, xs, r, ob, es, ep, e, c⟩ := x
    exact ⟨z, y, xs, Paired.mapP r fun p q z => ⟨z.1, ht _ _ z.2.1, z.2.2⟩, ob, es, ep, k _ _ (.inl rfl) e, c⟩
  | set S n => obtain ⟨ob, es, ep, t, e, c⟩ := x; exact ⟨ob, es, ep, t, k _ _ (.inl rfl) e, c⟩
  | ins C dx fs =>
    obtain ⟨d, z, ne, e, mA, ⟨od, es, ep, e2, c⟩, r⟩ := x
    exact ⟨ho _ d, z, ne, k _ _ (.inl rfl) e, mA, ⟨od, es, ep, k _ _ (.inr d) e2, c⟩, r⟩
  | own y => obtain ⟨ob, e⟩ := x; exact ⟨ob, k _ _ (.inl rfl) e⟩
  | xd fs => obtain ⟨mA, ⟨od, es, ep, e, c⟩, r⟩ := x; exact ⟨mA, ⟨od, es, ep, k _ _ (.inl rfl) e, c⟩, r⟩
  | rng lo hi => obtain ⟨t, u, v, e⟩ := x; exact ⟨t, u, v, k _ _ (.inl rfl) e⟩
  | frz ob u ih => obtain ⟨e, q⟩ := x; exact ⟨k _ _ (.inl rfl) e, ih q⟩
  | tbl ps =>
    have e : h.get? a = some { cls := .none, data := .fields ps } := x
    show h'.get? a = some { cls := .none, data := .fields ps }
    exact k a _ (.inl rfl) e
  | met f y =>
    have e : h.get? a = some (PySem.W.methodObj (.ref f) (.ref y)) := x
    show h'.get? a = some (PySem.W.methodObj (.ref f) (.ref y))
    exact k a _ (.inl rfl) e
  | ext φ => obtain ⟨p, ⟨o, e⟩, st⟩ := x; exact ⟨st _ _ p fun o q => k _ _ (.inl rfl) q, ⟨o, k _ _ (.inl rfl) e⟩, st⟩
theorem HOk.lt (x : HOk P w H h) (e : H a = some o) : a < h.objs.size := (x a o e).lt
theorem HOk.fresh (x : HOk P w H h) (e : h.objs.size ≤ a) : H a = none := by
  cases q : H a with
  | none => rfl
  | some u => exact absurd (Nat.lt_of_lt_of_le (x.lt q) e) (Nat.lt_irrefl _)
/-- every object of the heap is kept -/
theorem HOk.kept (x : HOk P w H h) (k : ∀ b u, h.get? b = some u → h'.get? b = some u) : HOk P w H h' := fun a o e =>
  (x a o e).stay (fun b u _ q => k b u q) (fun _ q => q) fun _ _ q => q
/-- a new object is laid and tracked -/
theorem HOk.laid (x : HOk P w H h) (k : ∀ b u, h.get? b = some u → h'.get? b = some u) (hp : h.objs.size ≤ a) (new : ObjOk P w (upd H a o) h' a o) : HOk P w (upd H a o) h' := fun b u e => by
  have hn := x.fresh hp
  by_cases hb : b = a
  · subst hb; rw [upd_same] at e; cases e; exact new
  · rw [upd_ne hb] at e
    exact (x b u e).stay (fun c v _ q => k c v q) (fun c q => by rw [upd_ne (ne_of_none q hn)]; exact q) fun c xs q => by rw [upd_ne (ne_of_none q hn)]; exact q
end

/-- what may be read as u: it is u, or a known u -/
def Rd (H : Hp) (a : Addr) (u : HO) : Prop := H a = some u ∨ ∃ o, H a = some (.frz o u)
theorem Rd.of {H : Hp} {a : Addr} {u : HO} (h : H a = some u) : Rd H a u := .inl h
theorem Rd.ok {P : Program} {w : World} {H : Hp} {h : Heap} {a : Addr} {u : HO} (r : Rd H a u) (x : HOk P w H h) : ObjOk P w H h a u := by
  rcases r with r | ⟨o, r⟩
  · exact x a u r
  · obtain ⟨_, q⟩ := x a _ r
    exact q
/-- what may be written -/
def Mut : Option HO → Prop
  | some (.lst _) => True
  | some (.dK _) => True
  | some (.dT _) => True
  | some (.set _ _) => True
  | some (.ins _ _ _) => True
  | some (.ext _) => True
  | _ => False
section
variable {P : Program} {w : World} {H : Hp} {h h' : Heap} {x e : Addr} {o' : HO}
/-- the object at e is changed: x itself, or the dict of the instance x -/
theorem HOk.write (ok : HOk P w H h) (mu : Mut (H x)) (he : e = x ∨ H e = some (.own x)) (k : ∀ b u, b ≠ e → h.get? b = some u → h'.get? b = some u) (heo : ∃ u, h'.get? e = some u)
    (new : ObjOk P w (upd H x o') h' x o') : HOk P w (upd H x o') h' := fun b u q => by
  have nown : ∀ c y, H c = some (.own y) → c ≠ x := fun c y r z => by subst z; rw [r] at mu; exact mu
  have ntup : ∀ c xs, H c = some (.tup xs) → c ≠ x := fun c xs r z => by subst z; rw [r] at mu; exact mu
  by_cases hb : b = x
  · subst hb; rw [upd_same] at q; cases q; exact new
  · rw [upd_ne hb] at q
    by_cases hbe : b = e
    · have q' : H b = some (.own x) := by
        rcases he with z | z
        · exact absurd (hbe.trans z) hb
        · rw [hbe]; exact z
      rw [q] at q'; cases q'
      obtain ⟨v, hv⟩ := heo
      exact ⟨v, by rw [hbe]; exact hv⟩
    · refine (ok b u q).stay (fun c v hc r => k c v ?_ r) (fun c r => by rw [upd_ne (nown c b r)]; exact r) fun c xs r => by rw [upd_ne (ntup c xs r)]; exact r
      rcases hc with rfl | hc
      · exact hbe
      · rintro rfl
        rcases he with z | z
        · exact nown c b hc z
        · rw [hc] at z; cases z; exact hb rfl
end

/-! ### kept unless tracked; of the frames at fs (the callers') the slots may change (an exception that passes writes there); of the records at ex (iterators) nothing is said -/
structure Un (fs ex : List Addr) (H H' : Hp) (h h' : Heap) : Prop where
  keep : ∀ b o, h.get? b = some o → H b = none → b ∉ fs → b ∉ ex → h'.get? b = some o
  slot : ∀ b o, h.get? b = some o → H b = none → b ∈ fs → b ∉ ex → ∃ sl, h'.get? b = some { o with slots := sl }
  free : ∀ b o, h.get? b = some o → H b = none → b ∉ ex → H' b = none
  there : ∀ b o, h.get? b = some o → b ∉ ex → ∃ o', h'.get? b = some o'
  tups : ∀ b xs, H b = some (.tup xs) → H' b = some (.tup xs)
  frzs : ∀ b o u, H b = some (.frz o u) → H' b = some (.frz o u)
  tbls : ∀ b ps, H b = some (.tbl ps) → ∃ more, H' b = some (.tbl (ps ++ more))
section
variable {fs fs' ex ex' : List Addr} {H H1 H2 : Hp} {h h1 h2 h' : Heap} {a x e : Addr} {o : HO}
theorem Un.any (u : Un fs ex H H1 h h1) {b : Addr} {ob : Obj} (q : h.get? b = some ob) (n : H b = none) (hx : b ∉ ex) : ∃ sl, h1.get? b = some { ob with slots := sl } := by
  by_cases hb : b ∈ fs
  · exact u.slot b ob q n hb hx
  · exact ⟨ob.slots, u.keep b ob q n hb hx⟩
theorem Un.trans (a : Un fs ex H H1 h h1) (b : Un fs ex H1 H2 h1 h2) : Un fs ex H H2 h h2 where
  keep := fun c ob q n hc hx => b.keep c ob (a.keep c ob q n hc hx) (a.free c ob q n hx) hc hx
  slot := fun c ob q n hc hx => by
    obtain ⟨sl, e1⟩ := a.slot c ob q n hc hx
    obtain ⟨sl', e2⟩ := b.slot c _ e1 (a.free c ob q n hx) hc hx
    exact ⟨sl', e2⟩
  free := fun c ob q n hx => by
    obtain ⟨o', e1⟩ := a.there c ob q hx
    exact b.free c o' e1 (a.free c ob q n hx) hx
  there := fun c ob q hx => by
    obtain ⟨o', e1⟩ := a.there c ob q hx
    exact b.there c o' e1 hx
  tups := fun c xs q => b.tups c xs (a.tups c xs q)
  frzs := fun c ob xs q => b.frzs c ob xs (a.frzs c ob xs q)
  tbls := fun c ps q => by
    obtain ⟨m1, e1⟩ := a.tbls c ps q
    obtain ⟨m2, e2⟩ := b.tbls c _ e1
    exact ⟨m1 ++ m2, by rw [e2, Array.append_assoc]⟩
theorem Un.kept (k : ∀ b u, h.get? b = some u → h'.get? b = some u) : Un fs ex H H h h' :=
  ⟨fun b ob q _ _ _ => k b ob q, fun b ob q _ _ _ => ⟨ob.slots, k b ob q⟩, fun _ _ _ n _ => n, fun b ob q _ => ⟨ob, k b ob q⟩, fun _ _ q => q, fun _ _ _ q => q, fun _ ps q => ⟨#[], by rw [q]; simp⟩⟩
theorem Un.refl : Un fs ex H H h h := Un.kept fun _ _ q => q
theorem Un.laid (k : ∀ b u, h.get? b = some u → h'.get? b = some u) (hp : h.objs.size ≤ a) (hn : H a = none) : Un fs ex H (upd H a o) h h' where
  keep := fun b u q _ _ _ => k b u q
  slot := fun b u q _ _ _ => ⟨u.slots, k b u q⟩
  free := fun b u q n _ => by rw [upd_ne (Nat.ne_of_lt (Nat.lt_of_lt_of_le (Heap.lt_size q) hp))]; exact n
  there := fun b u q _ => ⟨u, k b u q⟩
  tups := fun b xs q => by rw [upd_ne (ne_of_none q hn)]; exact q
  frzs := fun b u xs q => by rw [upd_ne (ne_of_none q hn)]; exact q
  tbls := fun b ps q => ⟨#[], by rw [upd_ne (ne_of_none q hn), q]; simp⟩
theorem Un.write (mu : Mut (H x)) (he : e = x ∨ H e = some (.own x)) (k : ∀ b u, b ≠ e → h.get? b = some u → h'.get? b = some u) (heo : ∃ u, h'.get? e = some u) : Un fs ex H (upd H x o) h h' := by
  have hx : ∀ b, H b = none → b ≠ x := fun b n z => by subst z; rw [n] at mu; exact mu
  have hb : ∀ b, H b = none → b ≠ e := fun b n z => by
    subst z
    rcases he with r | r
    · exact hx b n r
    · rw [n] at r; cases r
  have hm : ∀ b u, H b = some u → ¬ Mut (some u) → b ≠ x := fun b u q nm z => by subst z; rw [q] at mu; exact nm mu
  refine ⟨fun b u q n _ _ => k b u (hb b n) q, fun b u q n _ _ => ⟨u.slots, k b u (hb b n) q⟩, fun b u q n _ => by rw [upd_ne (hx b n)]; exact n, fun b u q _ => ?_,
    fun b xs q => by rw [upd_ne (hm b _ q fun z => z)]; exact q, fun b u xs q => by rw [upd_ne (hm b _ q fun z => z)]; exact q, fun b ps q => ⟨#[], by rw [upd_ne (hm b _ q fun z => z), q]; simp⟩⟩
  by_cases hbe : b = e
  · subst hbe; exact heo
  · exact ⟨u, k b u hbe q⟩
theorem Un.mono (u : Un fs ex H H1 h h1) (hs : ∀ b ∈ fs, b ∈ fs') (hx : ∀ b ∈ ex, b ∈ ex') : Un fs' ex' H H1 h h1 :=
  ⟨fun b ob q n hb he => u.keep b ob q n (fun z => hb (hs b z)) fun z => he (hx b z), fun _ _ q n _ he => u.any q n fun z => he (hx _ z), fun b ob q n he => u.free b ob q n fun z => he (hx b z), fun b ob q he => u.there b ob q fun z => he (hx b z), u.tups, u.frzs, u.tbls⟩
end

/-! ### the heap without what is tracked -/
def trk (h : Heap) (H : Hp) : List Addr := (List.range h.objs.size).filter fun a => (H a).isSome
def hidT (h : Heap) (H : Hp) : Heap := PySem.W.hideAll h (trk h H)
theorem hidT_size (h : Heap) (H : Hp) : (hidT h H).objs.size = h.objs.size := PySem.W.hideAll_size _ _
theorem hidT_get {h : Heap} {H : Hp} {b : Addr} {o : Obj} (e : h.get? b = some o) (n : H b = none) : (hidT h H).get? b = some o :=
  PySem.W.hideAll_get _ e fun hm => by
    have q : (H b).isSome = true := (List.mem_filter.mp hm).2
    rw [n] at q; simp at q
theorem of_hidT {h : Heap} {H : Hp} {b : Addr} {o : Obj} (e : (hidT h H).get? b = some o) : h.get? b = some o ∧ H b = none := by
  have e' : h.get? b = some o := PySem.W.of_hideAll (trk h H) e
  refine ⟨e', ?_⟩
  cases q : H b with
  | none => rfl
  | some x =>
    have hm : b ∈ trk h H := List.mem_filter.mpr ⟨List.mem_range.mpr (Heap.lt_size e'), by simp [q]⟩
    have z : (hidT h H).get? b = none := PySem.W.hideAll_none (trk h H) hm
    rw [z] at e; cases e

/-! ### OpenK's ledger, filled with every new object but one -/
def allNews (g h : Heap) (L : Addr) : List (Addr × Obj) := (List.range h.objs.size).filterMap fun a => if a = L ∨ (g.get? a).isSome = true then none else (h.get? a).map fun o => (a, o)
def rest (g h : Heap) (L d : Addr) : List (Addr × Obj) := (allNews g h L).filter fun p => decide (p.1 ≠ d)
end L2

namespace L2
open PySem PySem.Spec PyProof.Rows

/-- the module's facts, over the base: the heap at the law's entry without what is tracked there -/
structure Mod (K : PySem.W.Frag) (mg : Str → Option Value) (base : Heap) : Prop where
  kin : K.In base
  glob : base.Ns mainGlobals mg
  blt : ∃ mb, base.Ns builtinsNs mb ∧ ∀ x : Str, x ≠ "__name__" → mb x = bootBuiltins x
  nolimit : base.NoLimit

/-- the context: a def's body (or a comprehension's block) running. base: fixed through the whole law; s₀, H₀: the entry; outer: the frames whose slots others may change (a def's callers); stack: all frames that run;
   ex: iterators that were made ahead of the entry and are walked here (a comprehension's); fn: the names whose cells were made at the entry (a def: all; a comprehension's block: its own); calm: not within an except suite; pn: pins that every state bears; xe: what is wanted of an exception that leaves the code -/
structure Cx where
  prog : Program
  w : World
  K : PySem.W.Frag
  mg : Str → Option Value
  base : Heap
  A : Around
  N : List Str
  s₀ : Shared
  H₀ : Hp
  env : Env
  outer : List Env
  stack : List Env
  ex : List Addr
  fn : Str → Bool
  calm : Bool
  pn : List (Addr × Obj)
  xe : Value → Shared → Prop
/-- the callers' frames -/
def frs (l : List Env) : List Addr := l.filterMap (·.frame)
abbrev Cx.fs (X : Cx) : List Addr := frs X.outer

def Vis (sc : Scope) (x : Str) : Prop := sc.names.lookup x = some .local ∨ sc.names.lookup x = some .cell ∨ sc.names.lookup x = some .free
def Loc (sc : Scope) (x : Str) : Prop := sc.names.lookup x = some .local ∨ sc.names.lookup x = some .cell
def Look (env : Env) (h : Heap) (m : Str → Option Value) (x : Str) (u : Value) : Prop :=
  (env.kindOf x = some .local ∧ m x = some u) ∨ ((env.kindOf x = some .cell ∨ env.kindOf x = some .free) ∧ ∃ c, env.cells.lookup x = some c ∧ h.IsCell c (some u))

structure Cx.Ok (X : Cx) : Prop where
  mod : Mod X.K X.mg X.base
  kind : X.env.scope.kind = .function
  glob : X.env.globals = mainGlobals
  blt : X.env.builtins = builtinsNs
  above : X.s₀.heap.objs.size ≤ X.env.locals
  inj : ∀ x y c, X.env.cells.lookup x = some c → X.env.cells.lookup y = some c → x = y
  has : ∀ x, (X.env.kindOf x = some .cell ∨ X.env.kindOf x = some .free) → ∃ c, X.env.cells.lookup x = some c
  cab : ∀ x c, X.fn x = true → X.env.cells.lookup x = some c → X.s₀.heap.objs.size ≤ c
  hd : X.calm = true → X.A.handled = none
  frames : X.A.frames = some X.stack
  stk : X.stack = X.outer ∨ (X.stack = X.env :: X.outer ∧ X.env.frame = some X.env.locals)
  exf : ∀ b ∈ X.ex, b ≠ X.env.locals ∧ ∀ x c, X.env.cells.lookup x = some c → c ≠ b
  bs : ∀ b o, X.base.get? b = some o → X.s₀.heap.get? b = some o ∧ X.H₀ b = none
  bsz : X.base.objs.size ≤ X.s₀.heap.objs.size
  noex : ∀ b o, X.base.get? b = some o → b ∉ X.ex
  exfs : ∀ b ∈ X.ex, b ∉ X.fs
  funs : X.s₀.heap.FunFrames X.base X.outer
  frf : ∀ b ∈ X.fs, X.H₀ b = none

structure Inv (X : Cx) (pins : List (Addr × Obj)) (σ : List (Option V)) (H : Hp) (s : Shared) : Prop where
  ok : X.Ok
  os : s.os = X.s₀.os
  bare : AllBare s.gens
  base : Un X.fs X.ex X.H₀ H X.s₀.heap s.heap
  loc : ∃ m, s.heap.Ns X.env.locals m ∧ ∀ (i : Nat) (x : Str) (v : V), X.N[i]? = some x → σ[i]? = some (some v) → Vis X.env.scope x → ∃ u, RelV v u ∧ Look X.env s.heap m x u
  cell : ∀ x c, X.env.cells.lookup x = some c → ∃ v, s.heap.IsCell c v
  free : H X.env.locals = none
  freeC : ∀ x c, X.env.cells.lookup x = some c → H c = none
  pin : ∀ p ∈ X.pn ++ pins, s.heap.get? p.1 = some p.2 ∧ H p.1 = none ∧ p.1 ≠ X.env.locals ∧ p.1 ∉ X.fs ∧ ∀ v, p.2.data ≠ .cell v
  hok : HOk X.prog X.w H s.heap
  len : σ.length = X.N.length

section
variable {X : Cx} {pins : List (Addr × Obj)} {σ : List (Option V)} {H H' : Hp} {s : Shared} {h' : Heap}

theorem Cx.Ok.nofr (ok : X.Ok) {b : Addr} {o : Obj} (e : X.base.get? b = some o) : b ∉ X.fs := fun hb => by
  have := (ok.funs.mem hb).1
  rw [e] at this; cases this
theorem Inv.bs (I : Inv X pins σ H s) : ∀ b o, X.base.get? b = some o → s.heap.get? b = some o ∧ H b = none := fun b o e =>
  ⟨I.base.keep b o (I.ok.bs b o e).1 (I.ok.bs b o e).2 (I.ok.nofr e) (I.ok.noex b o e), I.base.free b o (I.ok.bs b o e).1 (I.ok.bs b o e).2 (I.ok.noex b o e)⟩
theorem Inv.bk (I : Inv X pins σ H s) : ∀ b o, X.base.get? b = some o → s.heap.get? b = some o := fun b o e => (I.bs b o e).1
theorem Inv.mod (I : Inv X pins σ H s) : Mod X.K X.mg X.base := I.ok.mod
theorem Inv.kIn (I : Inv X pins σ H s) : X.K.In s.heap := I.ok.mod.kin.keeps I.bk
theorem Inv.nolimit (I : Inv X pins σ H s) : s.heap.NoLimit := I.ok.mod.nolimit.keeps I.bk
theorem Inv.lt (I : Inv X pins σ H s) : X.env.locals < s.heap.objs.size := let ⟨_, hn, _⟩ := I.loc; hn.lt
theorem Inv.sz (I : Inv X pins σ H s) : X.s₀.heap.objs.size ≤ s.heap.objs.size := Nat.le_trans I.ok.above (Nat.le_of_lt I.lt)
theorem Inv.nofs (I : Inv X pins σ H s) {a : Addr} (h : s.heap.objs.size ≤ a) : a ∉ X.fs := fun hb => by
  obtain ⟨_, o, ho, _⟩ := I.ok.funs.mem hb
  exact absurd (Nat.lt_of_lt_of_le (Heap.lt_size ho) (Nat.le_trans I.sz h)) (Nat.lt_irrefl _)
theorem Inv.cne (I : Inv X pins σ H s) : ∀ x c, X.env.cells.lookup x = some c → c ≠ X.env.locals := fun x c e z => by
  obtain ⟨v, o, ho, hd⟩ := I.cell x c e
  obtain ⟨m, ⟨o', es, ep, ho', hd', _⟩, _⟩ := I.loc
  rw [z, ho'] at ho; cases ho; rw [hd'] at hd; cases hd
theorem Inv.funs (I : Inv X pins σ H s) : s.heap.FunFrames X.base X.outer := by
  have all : ∀ (l : List Env), (∀ b ∈ frs l, b ∈ X.fs) → X.s₀.heap.FunFrames X.base l → s.heap.FunFrames X.base l := by
    intro l
    induction l with
    | nil => intro _ _; trivial
    | cons env r ih =>
      intro hs hl
      obtain ⟨hk, ⟨L, o, hf, hn, ho, hd⟩, hr⟩ := hl
      have hL : L ∈ X.fs := hs L (by unfold frs; rw [List.filterMap_cons, hf]; exact List.mem_cons_self)
      obtain ⟨sl, e⟩ := I.base.slot L o ho (I.ok.frf L hL) hL fun z => I.ok.exfs L z hL
      exact ⟨hk, ⟨L, _, hf, hn, e, hd⟩, ih (fun b hb => hs b (by unfold frs; rw [List.filterMap_cons, hf]; exact List.mem_cons_of_mem _ hb)) hr⟩
  exact all X.outer (fun _ hb => hb) I.ok.funs

/-- the frames that run, for a call -/
theorem Inv.stack (I : Inv X pins σ H s) : s.heap.FunFrames X.base X.stack := by
  rcases I.ok.stk with e | ⟨e, hf⟩
  · rw [e]; exact I.funs
  · rw [e]
    obtain ⟨m, hn, _⟩ := I.loc
    refine .cons (by rw [I.ok.kind]; decide) hf hn ?_ I.funs
    exact Heap.get?_none_of_le (Nat.le_trans I.ok.bsz I.ok.above)
theorem Inv.stkSub (I : Inv X pins σ H s) : ∀ b ∈ frs X.stack, b ∈ X.env.locals :: X.fs := fun b hb => by
  rcases I.ok.stk with e | ⟨e, hf⟩
  · rw [e] at hb; exact List.mem_cons_of_mem _ hb
  · rw [e] at hb
    unfold frs at hb
    rw [List.filterMap_cons, hf] at hb
    exact hb
theorem Inv.stkFree (I : Inv X pins σ H s) : ∀ b ∈ frs X.stack, H b = none := fun b hb => by
  rcases List.mem_cons.mp (I.stkSub b hb) with e | hb
  · rw [e]; exact I.free
  · obtain ⟨_, o, ho, _⟩ := I.ok.funs.mem hb
    exact I.base.free b o ho (I.ok.frf b hb) fun z => I.ok.exfs b z hb

/-- THE STEP: the untracked objects but the frame and the records at ch are kept (the callers' frames up to slots), the frame's map is kept, the new abstract heap is held -/
theorem Inv.step {g' : Array GenState} {t' : Nat} {d' : Drawn} {ch : List Addr} (I : Inv X pins σ H s)
    (hch : ∀ b ∈ ch, (b ∈ X.ex ∨ X.s₀.heap.objs.size ≤ b) ∧ b ≠ X.env.locals ∧ (∀ x c, X.env.cells.lookup x = some c → c ≠ b) ∧ ∀ p ∈ X.pn ++ pins, p.1 ≠ b)
    (keep : ∀ b o, b ≠ X.env.locals → b ∉ X.fs → b ∉ ch → s.heap.get? b = some o → H b = none → h'.get? b = some o)
    (slot : ∀ b o, b ≠ X.env.locals → b ∈ X.fs → b ∉ ch → s.heap.get? b = some o → H b = none → ∃ sl, h'.get? b = some { o with slots := sl }) (free : ∀ b o, b ∉ ch → s.heap.get? b = some o → H b = none → H' b = none)
    (there : ∀ b o, b ∉ ch → s.heap.get? b = some o → ∃ o', h'.get? b = some o')
    (tups : ∀ b xs, H b = some (.tup xs) → H' b = some (.tup xs)) (frzs : ∀ b o u, H b = some (.frz o u) → H' b = some (.frz o u)) (tbls : ∀ b ps, H b = some (.tbl ps) → ∃ more, H' b = some (.tbl (ps ++ more)))
    (ns : ∀ m, s.heap.Ns X.env.locals m → h'.Ns X.env.locals m) (hok : HOk X.prog X.w H' h') (hg : AllBare g') :
    Inv X pins σ H' { s with heap := h', gens := g', drawn := d', toks := t' } := by
  have neL : ∀ b o, X.s₀.heap.get? b = some o → b ≠ X.env.locals := fun b o e => Nat.ne_of_lt (Nat.lt_of_lt_of_le (Heap.lt_size e) I.ok.above)
  have neC : ∀ b o, X.s₀.heap.get? b = some o → b ∉ X.ex → b ∉ ch := fun b o e hx hb => by
    rcases (hch b hb).1 with z | z
    · exact hx z
    · exact absurd (Nat.lt_of_lt_of_le (Heap.lt_size e) z) (Nat.lt_irrefl _)
  have cellK : ∀ x c, X.env.cells.lookup x = some c → ∀ v, s.heap.IsCell c v → h'.IsCell c v := fun x c e v ⟨o, ho, hd⟩ => by
    have nch : c ∉ ch := fun z => (hch c z).2.2.1 x c e rfl
    by_cases hc : c ∈ X.fs
    · obtain ⟨sl, q⟩ := slot c o (I.cne x c e) hc nch ho (I.freeC x c e)
      exact ⟨_, q, hd⟩
    · exact ⟨o, keep c o (I.cne x c e) hc nch ho (I.freeC x c e), hd⟩
  refine ⟨I.ok, I.os, hg, ⟨fun b o e n hb hx => ?_, fun b o e n hb hx => ?_, fun b o e n hx => ?_, fun b o e hx => ?_, fun b xs e => tups b xs (I.base.tups b xs e), fun b o xs e => frzs b o xs (I.base.frzs b o xs e), fun b ps e => ?_⟩, ?_, fun x c e => ?_, ?_, fun x c e => ?_, fun p hp => ?_, hok, I.len⟩
  · exact keep b o (neL b o e) hb (neC b o e hx) (I.base.keep b o e n hb hx) (I.base.free b o e n hx)
  · obtain ⟨sl, e1⟩ := I.base.slot b o e n hb hx
    obtain ⟨sl', e2⟩ := slot b _ (neL b o e) hb (neC b o e hx) e1 (I.base.free b o e n hx)
    exact ⟨sl', e2⟩
  · obtain ⟨o', e1⟩ := I.base.there b o e hx
    exact free b o' (neC b o e hx) e1 (I.base.free b o e n hx)
  · obtain ⟨o', e1⟩ := I.base.there b o e hx
    exact there b o' (neC b o e hx) e1
  · obtain ⟨m1, e1⟩ := I.base.tbls b ps e
    obtain ⟨m2, e2⟩ := tbls b _ e1
    exact ⟨m1 ++ m2, by rw [e2, Array.append_assoc]⟩
  · obtain ⟨m, hn, hl⟩ := I.loc
    refine ⟨m, ns m hn, fun i x v e1 e2 e3 => ?_⟩
    obtain ⟨u, r, l⟩ := hl i x v e1 e2 e3
    refine ⟨u, r, ?_⟩
    rcases l with l | ⟨k, c, e, z⟩
    · exact .inl l
    · exact .inr ⟨k, c, e, cellK x c e _ z⟩
  · obtain ⟨v, z⟩ := I.cell x c e
    exact ⟨v, cellK x c e v z⟩
  · obtain ⟨m, ⟨o, _, _, ho, _⟩, _⟩ := I.loc
    exact free _ o (fun z => (hch _ z).2.1 rfl) ho I.free
  · obtain ⟨v, o, ho, hd⟩ := I.cell x c e
    exact free c o (fun z => (hch c z).2.2.1 x c e rfl) ho (I.freeC x c e)
  · obtain ⟨e, n, ne, nf, d⟩ := I.pin p hp
    have nch : p.1 ∉ ch := fun z => (hch p.1 z).2.2.2 p hp rfl
    exact ⟨keep p.1 p.2 ne nf nch e n, free p.1 p.2 nch e n, ne, nf, d⟩
/-- .. where the frame's own object is kept too -/
theorem Inv.un {t' : Nat} (I : Inv X pins σ H s) (u : Un X.fs [] H H' s.heap h') (hok : HOk X.prog X.w H' h') : Inv X pins σ H' { s with heap := h', toks := t' } := by
  obtain ⟨m, ⟨o, es, ep, ho, r⟩, _⟩ := id I.loc
  obtain ⟨sl, hL⟩ := u.any ho I.free (by simp)
  exact I.step (g' := s.gens) (d' := s.drawn) (ch := []) (fun _ z => nomatch z) (fun b o _ hb _ e n => u.keep b o e n hb (by simp)) (fun b o _ hb _ e n => u.slot b o e n hb (by simp)) (fun b o _ e n => u.free b o e n (by simp)) (fun b o _ e => u.there b o e (by simp)) u.tups u.frzs u.tbls (fun m' hm => by
    obtain ⟨o', es', ep', ho', r'⟩ := hm
    rw [ho] at ho'; cases ho'
    exact ⟨_, es', ep', hL, r'⟩) hok I.bare
/-- behind a call (or a comprehension's block): the slots of this frame may have changed too, the records at ch may have turned -/
theorem Inv.call {g' : Array GenState} {t' : Nat} {d' : Drawn} {ch : List Addr} (I : Inv X pins σ H s) (u : Un (frs X.stack) ch H H' s.heap h') (hok : HOk X.prog X.w H' h') (hg : AllBare g')
    (hch : ∀ b ∈ ch, (b ∈ X.ex ∨ X.s₀.heap.objs.size ≤ b) ∧ b ≠ X.env.locals ∧ (∀ x c, X.env.cells.lookup x = some c → c ≠ b) ∧ ∀ p ∈ X.pn ++ pins, p.1 ≠ b) :
    Inv X pins σ H' { s with heap := h', gens := g', drawn := d', toks := t' } := by
  obtain ⟨m, ⟨o, es, ep, ho, r⟩, _⟩ := id I.loc
  obtain ⟨sl, hL⟩ := u.any ho I.free fun z => (hch _ z).2.1 rfl
  exact I.step (ch := ch) hch (fun b o hL hb hc e n => u.keep b o e n (fun z => (List.mem_cons.mp (I.stkSub b z)).elim hL hb) hc) (fun b o _ _ hc e n => u.any e n hc) (fun b o hc e n => u.free b o e n hc) (fun b o hc e => u.there b o e hc) u.tups u.frzs u.tbls (fun m' hm => by
    obtain ⟨o', es', ep', ho', r'⟩ := hm
    rw [ho] at ho'; cases ho'
    exact ⟨_, es', ep', hL, r'⟩) hok hg
/-- an untracked record of ours (an iterator) has turned -/
theorem Inv.turned {t' : Nat} {it : Addr} (I : Inv X pins σ H s) (k : ∀ b o, b ≠ it → s.heap.get? b = some o → h'.get? b = some o) (hn : H it = none) (hL : it ≠ X.env.locals)
    (h1 : it ∈ X.ex ∨ X.s₀.heap.objs.size ≤ it) (h2 : ∀ x c, X.env.cells.lookup x = some c → c ≠ it) (h3 : ∀ p ∈ X.pn ++ pins, p.1 ≠ it) : Inv X pins σ H { s with heap := h', toks := t' } := by
  have nit : ∀ b u, H b = some u → b ≠ it := fun b u e z => by rw [z, hn] at e; cases e
  refine I.step (g' := s.gens) (d' := s.drawn) (ch := [it]) (fun b hb => ?_) (fun b o _ _ hc e _ => k b o (fun z => hc (by simp [z])) e) (fun b o _ _ hc e _ => ⟨o.slots, k b o (fun z => hc (by simp [z])) e⟩) (fun _ _ _ _ n => n)
    (fun b o hc e => ⟨o, k b o (fun z => hc (by simp [z])) e⟩) (fun _ _ e => e) (fun _ _ _ e => e) (fun b ps e => ⟨#[], by rw [e]; simp⟩) (fun m hm => ?_) (fun b u e => ?_) I.bare
  · have e : b = it := by simpa using hb
    subst e
    exact ⟨h1, hL, h2, h3⟩
  · obtain ⟨o, es, ep, ho, r⟩ := hm
    exact ⟨o, es, ep, k _ o (Ne.symm hL) ho, r⟩
  · refine (I.hok b u e).stay (fun c v hc q => k c v ?_ q) (fun _ q => q) fun _ _ q => q
    rcases hc with z | z
    · rw [z]; exact nit b u e
    · exact nit c _ z
theorem Inv.tok (I : Inv X pins σ H s) (t : Nat) : Inv X pins σ H { s with toks := t } := I.un (h' := s.heap) (t' := t) Un.refl I.hok
/-- all objects kept -/
theorem Inv.kept {t' : Nat} (I : Inv X pins σ H s) (k : ∀ b u, s.heap.get? b = some u → h'.get? b = some u) : Inv X pins σ H { s with heap := h', toks := t' } := I.un (Un.kept k) (I.hok.kept k)
/-- a new object laid and tracked -/
theorem Inv.laid {a : Addr} {o : HO} {t' : Nat} (I : Inv X pins σ H s) (k : ∀ b u, s.heap.get? b = some u → h'.get? b = some u) (hp : s.heap.objs.size ≤ a) (new : ObjOk X.prog X.w (upd H a o) h' a o) :
    Inv X pins σ (upd H a o) { s with heap := h', toks := t' } := I.un (Un.laid k hp (I.hok.fresh hp)) (I.hok.laid k hp new)
/-- an object written -/
theorem Inv.write {x e : Addr} {o : HO} {t' : Nat} (I : Inv X pins σ H s) (mu : Mut (H x)) (he : e = x ∨ H e = some (.own x)) (k : ∀ b u, b ≠ e → s.heap.get? b = some u → h'.get? b = some u) (heo : ∃ u, h'.get? e = some u)
    (new : ObjOk X.prog X.w (upd H x o) h' x o) : Inv X pins σ (upd H x o) { s with heap := h', toks := t' } := I.un (Un.write mu he k heo) (I.hok.write mu he k heo new)
/-- forgetting slots, pins -/
theorem Inv.weak {σ' : List (Option V)} (I : Inv X pins σ H s) (hl : σ'.length = σ.length) (w : ∀ (i : Nat) v, σ'[i]? = some (some v) → σ[i]? = some (some v)) : Inv X pins σ' H s :=
  ⟨I.ok, I.os, I.bare, I.base, let ⟨m, hn, hl'⟩ := I.loc; ⟨m, hn, fun i x v e1 e2 e3 => hl' i x v e1 (w i v e2) e3⟩, I.cell, I.free, I.freeC, I.pin, I.hok, hl.trans I.len⟩
theorem Inv.pins_of {pins' : List (Addr × Obj)} (I : Inv X pins σ H s) (h : ∀ p ∈ pins', s.heap.get? p.1 = some p.2 ∧ H p.1 = none ∧ p.1 ≠ X.env.locals ∧ p.1 ∉ X.fs ∧ ∀ v, p.2.data ≠ .cell v) : Inv X pins' σ H s :=
  ⟨I.ok, I.os, I.bare, I.base, I.loc, I.cell, I.free, I.freeC, fun p hp => (List.mem_append.mp hp).elim (fun z => I.pin p (List.mem_append_left _ z)) (h p), I.hok, I.len⟩

theorem nodup_ix {N : List Str} (hN : N.Nodup) {i j : Nat} {x : Str} (a : N[i]? = some x) (b : N[j]? = some x) : i = j := by
  obtain ⟨h1, e1⟩ := List.getElem?_eq_some_iff.mp a
  obtain ⟨h2, e2⟩ := List.getElem?_eq_some_iff.mp b
  exact (List.getElem_inj hN).mp (e1.trans e2.symm)

/-- a name is stored; what changed -/
theorem store_ok2 {M : Model} {A : Around} {E : Value → Shared → Prop} {i : Nat} {x : Str} {v : V} {u : Value} {Q : Unit → Shared → Prop} (I : Inv X pins σ H s) (hN : X.N.Nodup) (hi : X.N[i]? = some x) (hx : Loc X.env.scope x) (r : RelV v u)
    (h : ∀ s', Inv X pins (σ.set i (some v)) H s' → (∃ a, Heap.SameBut a s.heap s'.heap ∧ (a = X.env.locals ∨ X.env.cells.lookup x = some a)) → Q () s') (hf : X.fn x = true ∨ X.env.scope.names.lookup x = some .local := by first | exact .inl rfl | exact .inr rfl | assumption) : wpAny M A (storeName X.env x u) Q E s := by
  obtain ⟨m, hn, hl⟩ := id I.loc
  have hcls : (X.env.scope.kind == .class || (X.env.scope.kind == .module && X.env.locals != X.env.globals)) = false := by rw [I.ok.kind]; rfl
  have hiσ : i < σ.length := by rw [I.len]; exact (List.getElem?_eq_some_iff.mp hi).1
  have cne := I.cne
  have tracked : ∀ {a : Addr} {h' : Heap}, (∃ o, s.heap.get? a = some o ∧ H a = none) → Heap.SameBut a s.heap h' → HOk X.prog X.w H h' := fun {a h'} ha hs b ob e => by
    obtain ⟨_, _, hfree⟩ := ha
    refine (I.hok b ob e).stay (fun c w' hc q => (hs.2 c ?_).trans q) (fun _ q => q) fun _ _ q => q
    rintro rfl
    rcases hc with rfl | hc
    · rw [hfree] at e; cases e
    · rw [hfree] at hc; cases hc
  rcases hx with hk | hk
  · refine wpAny_storeName_local hk hn (fun h' hn' hs => ?_) hcls
    obtain ⟨oL, _, _, hoL, _⟩ := id hn
    refine h _ ⟨I.ok, I.os, I.bare, ⟨fun b o e n hb hx => ?_, fun b o e n hb hx => ?_, I.base.free, fun b o e hx => ?_, I.base.tups, I.base.frzs, I.base.tbls⟩, ⟨_, hn', fun j y v' e1 e2 e3 => ?_⟩, fun y c e => ?_, I.free, I.freeC, fun p hp => ?_, tracked ⟨oL, hoL, I.free⟩ hs, by simpa using I.len⟩ ⟨_, hs, .inl rfl⟩
    · exact (hs.2 b (Nat.ne_of_lt (Nat.lt_of_lt_of_le (Heap.lt_size e) I.ok.above))).trans (I.base.keep b o e n hb hx)
    · obtain ⟨sl, e1⟩ := I.base.slot b o e n hb hx
      exact ⟨sl, (hs.2 b (Nat.ne_of_lt (Nat.lt_of_lt_of_le (Heap.lt_size e) I.ok.above))).trans e1⟩
    · obtain ⟨o', e1⟩ := I.base.there b o e hx
      exact ⟨o', (hs.2 b (Nat.ne_of_lt (Nat.lt_of_lt_of_le (Heap.lt_size e) I.ok.above))).trans e1⟩
    · by_cases hj : j = i
      · subst hj
        rw [hi] at e1; cases e1
        rw [List.getElem?_set_self hiσ] at e2
        cases e2
        exact ⟨u, r, .inl ⟨hk, by simp⟩⟩
      · rw [List.getElem?_set_ne (Ne.symm hj)] at e2
        obtain ⟨u', r', q⟩ := hl j y v' e1 e2 e3
        refine ⟨u', r', ?_⟩
        rcases q with ⟨k, e⟩ | ⟨k, c, e, z⟩
        · refine .inl ⟨k, ?_⟩
          have : y ≠ x := fun e => hj (nodup_ix hN e1 (e ▸ hi))
          simp [this, e]
        · exact .inr ⟨k, c, e, z.sameBut hs (cne y c e)⟩
    · obtain ⟨w', z⟩ := I.cell y c e
      exact ⟨w', z.sameBut hs (cne y c e)⟩
    · obtain ⟨e, n, ne, nf, d⟩ := I.pin p hp
      exact ⟨(hs.2 p.1 ne).trans e, n, ne, nf, d⟩
  · have hfn : X.fn x = true := by
      rcases hf with z | z
      · exact z
      · rw [z] at hk; cases hk
    obtain ⟨c, hc⟩ := I.ok.has x (.inl hk)
    obtain ⟨w', z⟩ := I.cell x c hc
    refine wpAny_storeName_cell I.ok.kind hk hc z (fun h' hc' hs => ?_)
    obtain ⟨oc, hoc, hocd⟩ := id z
    refine h { s with heap := h' } ⟨I.ok, I.os, I.bare, ⟨fun b o e n hb hx => ?_, fun b o e n hb hx => ?_, I.base.free, fun b o e hx => ?_, I.base.tups, I.base.frzs, I.base.tbls⟩, ⟨m, hn.sameBut hs (Ne.symm (cne x c hc)), fun j y v' e1 e2 e3 => ?_⟩, fun y c' e => ?_, I.free, I.freeC, fun p hp => ?_, tracked ⟨oc, hoc, I.freeC x c hc⟩ hs, by simpa using I.len⟩ ⟨c, hs, .inr hc⟩
    · exact (hs.2 b (Nat.ne_of_lt (Nat.lt_of_lt_of_le (Heap.lt_size e) (I.ok.cab x c hfn hc)))).trans (I.base.keep b o e n hb hx)
    · obtain ⟨sl, e1⟩ := I.base.slot b o e n hb hx
      exact ⟨sl, (hs.2 b (Nat.ne_of_lt (Nat.lt_of_lt_of_le (Heap.lt_size e) (I.ok.cab x c hfn hc)))).trans e1⟩
    · obtain ⟨o', e1⟩ := I.base.there b o e hx
      exact ⟨o', (hs.2 b (Nat.ne_of_lt (Nat.lt_of_lt_of_le (Heap.lt_size e) (I.ok.cab x c hfn hc)))).trans e1⟩
    · by_cases hj : j = i
      · subst hj
        rw [hi] at e1; cases e1
        rw [List.getElem?_set_self hiσ] at e2
        cases e2
        exact ⟨u, r, .inr ⟨.inl hk, c, hc, hc'⟩⟩
      · rw [List.getElem?_set_ne (Ne.symm hj)] at e2
        obtain ⟨u', r', q⟩ := hl j y v' e1 e2 e3
        refine ⟨u', r', ?_⟩
        rcases q with q | ⟨k, c', e, z'⟩
        · exact .inl q
        · refine .inr ⟨k, c', e, z'.sameBut hs ?_⟩
          rintro rfl
          exact hj (nodup_ix hN e1 (I.ok.inj _ _ _ e hc ▸ hi))
    · by_cases hcc : c' = c
      · subst hcc; exact ⟨_, hc'⟩
      · obtain ⟨w2, z2⟩ := I.cell y c' e
        exact ⟨w2, z2.sameBut hs hcc⟩
    · obtain ⟨e, n, ne, nf, d⟩ := I.pin p hp
      refine ⟨(hs.2 p.1 ?_).trans e, n, ne, nf, d⟩
      intro q
      rw [q, hoc] at e
      have q' : oc = p.2 := Option.some.inj e
      exact d w' (by rw [← q']; exact hocd)
theorem store_ok {M : Model} {A : Around} {E : Value → Shared → Prop} {i : Nat} {x : Str} {v : V} {u : Value} {Q : Unit → Shared → Prop} (I : Inv X pins σ H s) (hN : X.N.Nodup) (hi : X.N[i]? = some x) (hx : Loc X.env.scope x) (r : RelV v u)
    (h : ∀ s', Inv X pins (σ.set i (some v)) H s' → Q () s') (hf : X.fn x = true ∨ X.env.scope.names.lookup x = some .local := by first | exact .inl rfl | exact .inr rfl | assumption) : wpAny M A (storeName X.env x u) Q E s :=
  store_ok2 I hN hi hx r (fun s' I' _ => h s' I') hf
/-- behind a call or a block, the state as it is -/
theorem Inv.call' {s' : Shared} {ch : List Addr} (I : Inv X pins σ H s) (ho : s'.os = s.os) (u : Un (frs X.stack) ch H H' s.heap s'.heap) (hok : HOk X.prog X.w H' s'.heap) (hg : AllBare s'.gens)
    (hch : ∀ b ∈ ch, (b ∈ X.ex ∨ X.s₀.heap.objs.size ≤ b) ∧ b ≠ X.env.locals ∧ (∀ x c, X.env.cells.lookup x = some c → c ≠ b) ∧ ∀ p ∈ X.pn ++ pins, p.1 ≠ b) : Inv X pins σ H' s' := by
  obtain ⟨h', g', d', t', o'⟩ := s'
  have e : o' = s.os := ho
  subst e
  exact I.call (g' := g') (t' := t') (d' := d') u hok hg hch
end

/-! ### the judgements -/
/-- an exception: its class, its own dict's address (where it has one), the abstract heap behind it -/
abbrev XK := Value → Option Addr → Hp → Prop
abbrev St := List (Option V)
abbrev VK := V → Hp → Prop
/-- an expression's reading; a test's; an argument list's -/
abbrev TE := St → Hp → VK → Prop
abbrev TT := St → Hp → (Bool → Hp → Prop) → Prop
abbrev TA := St → Hp → (List V → Hp → Prop) → Prop
/-- what is wanted behind a statement -/
structure Ends where
  nx : St → Hp → Prop
  rt : VK
  bk : St → Hp → Prop := fun _ _ => False
  ct : St → Hp → Prop := fun _ _ => False
abbrev TS := Ends → St → Hp → Prop

def EP (X : Cx) (pins : List (Addr × Obj)) (σ : St) (Q : VK) (u : Value) (s' : Shared) : Prop := ∃ v H', Inv X pins σ H' s' ∧ RelV v u ∧ Q v H'
def TP (X : Cx) (pins : List (Addr × Obj)) (σ : St) (Q : Bool → Hp → Prop) (b : Bool) (s' : Shared) : Prop := ∃ H', Inv X pins σ H' s' ∧ Q b H'
def AP (X : Cx) (pins : List (Addr × Obj)) (σ : St) (Q : List V → Hp → Prop) (us : List Value) (s' : Shared) : Prop := ∃ vs H', Inv X pins σ H' s' ∧ Vals vs us ∧ Q vs H'
def SP (X : Cx) (pins : List (Addr × Obj)) (D : Ends) (f : Flow) (s' : Shared) : Prop :=
  match f with
  | .next => ∃ σ' H', Inv X pins σ' H' s' ∧ D.nx σ' H'
  | .brk => ∃ σ' H', Inv X pins σ' H' s' ∧ D.bk σ' H'
  | .cont => ∃ σ' H', Inv X pins σ' H' s' ∧ D.ct σ' H'
  | .ret u => ∃ v σ' H', Inv X pins σ' H' s' ∧ RelV v u ∧ D.rt v H'

def PE (X : Cx) (e : Expr) (t : TE) : Prop :=
  ∀ (pins : List (Addr × Obj)) (s : Shared) (σ : St) (H : Hp) (Q : VK), Inv X pins σ H s → t σ H Q → wpAny (model X.prog X.w) X.A (eval e X.env) (EP X pins σ Q) X.xe s
def PT (X : Cx) (e : Expr) (t : TT) : Prop :=
  ∀ (pins : List (Addr × Obj)) (s : Shared) (σ : St) (H : Hp) (Q : Bool → Hp → Prop), Inv X pins σ H s → t σ H Q → wpAny (model X.prog X.w) X.A (isTrue e X.env (eval e X.env)) (TP X pins σ Q) X.xe s
/-- a test whatever its 'whole' is (and, or) -/
def PW (X : Cx) (e : Expr) (t : TT) : Prop :=
  ∀ (whole : Sem Value) (pins : List (Addr × Obj)) (s : Shared) (σ : St) (H : Hp) (Q : Bool → Hp → Prop), Inv X pins σ H s → t σ H Q → wpAny (model X.prog X.w) X.A (isTrue e X.env whole) (TP X pins σ Q) X.xe s
theorem PW.pt {X : Cx} {e : Expr} {t : TT} (h : PW X e t) : PT X e t := h _
/-- an argument list (no star), from the left -/
def PA (X : Cx) (es : List Expr) (t : TA) : Prop :=
  ∀ (pos : Pos) (pins : List (Addr × Obj)) (s : Shared) (σ : St) (H : Hp) (Q : List V → Hp → Prop), Inv X pins σ H s → t σ H Q → wpAny (model X.prog X.w) X.A (spliced (backTo pos (starEach es X.env))) (AP X pins σ Q) X.xe s
def PS (X : Cx) (st : Stmt) (t : TS) : Prop :=
  ∀ (pins : List (Addr × Obj)) (s : Shared) (σ : St) (H : Hp) (D : Ends), Inv X pins σ H s → t D σ H → wpAny (model X.prog X.w) X.A (exec st X.env) (SP X pins D) X.xe s
def PSs (X : Cx) (st : List Stmt) (t : TS) : Prop :=
  ∀ (pins : List (Addr × Obj)) (s : Shared) (σ : St) (H : Hp) (D : Ends), Inv X pins σ H s → t D σ H → wpAny (model X.prog X.w) X.A (execs st X.env) (SP X pins D) X.xe s
/-- weaken the end -/
theorem thn {α : Type} {t : Sem α} {Q Q' : α → Shared → Prop} {M : Model} {A : Around} {E : Value → Shared → Prop} {s : Shared} (h : wpAny M A t Q E s) (hQ : ∀ a s, Q a s → Q' a s) : wpAny M A t Q' E s := wpAny_mono h hQ fun _ _ x => x
end L2

namespace L2
open PySem PySem.Spec PyProof.Rows
section
variable {X : Cx}

/-! ### names and constants -/
def tVar (i : Nat) : TE := fun σ H Q => ∃ v, σ[i]? = some (some v) ∧ Q v H
def tC (v : V) : TE := fun _ H Q => Q v H
theorem pe_var {i : Nat} {x : Str} {pos : Pos} (hN : X.N[i]? = some x) (hv : Vis X.env.scope x) (hd : (x == ("__debug__" : Str)) = false := by decide) (hcd : (x == ("__classdict__" : Str)) = false := by decide) : PE X (.Name x pos) (tVar i) := by
  intro pins s σ H Q I h
  obtain ⟨v, e, h⟩ := h
  obtain ⟨m, hn, hl⟩ := I.loc
  obtain ⟨u, r, l⟩ := hl i x v hN e hv
  have fin : EP X pins σ Q u s := ⟨v, H, I, r, h⟩
  rcases l with ⟨hk, hm⟩ | ⟨hk, c, hc, hcell⟩
  · exact wpAny_Name (wpAny_loadName_local I.ok.kind hk hn hm fin) hd
  · rcases hk with hk | hk
    · exact wpAny_Name (wpAny_loadName_cell I.ok.kind hk hc hcell fin) hd
    · exact wpAny_Name (wpAny_loadName_free I.ok.kind hk hc hcell fin hcd) hd
theorem pe_int {i j pos} : PE X (.Constant (.int i) j pos) (tC (.int i)) := fun _ _ _ H _ I h => wpAny_Constant_int ⟨.int i, H, I.tok _, ⟨_, rfl⟩, h⟩
theorem pe_bl {b j pos} : PE X (.Constant (.bool b) j pos) (tC (.bl b)) := fun _ _ _ H _ I h => Constant_bool ⟨.bl b, H, I, rfl, h⟩
theorem pe_non {j pos} : PE X (.Constant .none j pos) (tC .non) := fun _ _ _ H _ I h => Constant_none ⟨.non, H, I, rfl, h⟩
theorem pe_str {x j pos} : PE X (.Constant (.str x) j pos) (tC (.str x)) := fun _ _ _ H _ I h => Calls.Constant_str ⟨.str x, H, I.tok _, ⟨_, rfl⟩, h⟩

/-- a global name of the def -/
def Gl (X : Cx) (x : Str) : Prop := X.env.kindOf x = some .globalImplicit
theorem ld_glob {E : Value → Shared → Prop} {pins : List (Addr × Obj)} {s : Shared} {σ : St} {H : Hp} {x : Str} {u : Value} {pos : Pos} {Q : Value → Shared → Prop} (I : Inv X pins σ H s) (hg : Gl X x) (hm : X.mg x = some u) (h : Q u s)
    (hd : (x == ("__debug__" : Str)) = false := by decide) : wpAny (model X.prog X.w) X.A (eval (.Name x pos) X.env) Q E s :=
  Calls.Name_function_global I.ok.kind hg (Calls.loadGlobal_global (by rw [I.ok.glob]; exact I.mod.glob.keeps I.bk) hm h) hd
theorem ld_blt {E : Value → Shared → Prop} {pins : List (Addr × Obj)} {s : Shared} {σ : St} {H : Hp} {x : Str} {u : Value} {pos : Pos} {Q : Value → Shared → Prop} (I : Inv X pins σ H s) (hg : Gl X x) (hm : X.mg x = none) (hv : bootBuiltins x = some u) (h : Q u s)
    (hn : x ≠ "__name__" := by decide) (hd : (x == ("__debug__" : Str)) = false := by decide) : wpAny (model X.prog X.w) X.A (eval (.Name x pos) X.env) Q E s := by
  obtain ⟨mb, h1, h2⟩ := I.mod.blt
  exact Calls.Name_function_global I.ok.kind hg (Calls.loadGlobal_builtin (by rw [I.ok.glob]; exact I.mod.glob.keeps I.bk) hm (by rw [I.ok.blt]; exact h1.keeps I.bk) ((h2 x hn).trans hv) h) hd
/-- a module's constant, a class, a function, as a value -/
theorem pe_glob {x : Str} {v : V} {u : Value} {pos : Pos} (hg : Gl X x) (hm : X.mg x = some u) (r : RelV v u) (hd : (x == ("__debug__" : Str)) = false := by decide) : PE X (.Name x pos) (tC v) :=
  fun _ _ _ H _ I h => ld_glob I hg hm ⟨v, H, I, r, h⟩ hd
theorem pe_bltn {x : Str} {v : V} {u : Value} {pos : Pos} (hg : Gl X x) (hm : X.mg x = none) (hv : bootBuiltins x = some u) (r : RelV v u) (hn : x ≠ "__name__" := by decide) (hd : (x == ("__debug__" : Str)) = false := by decide) : PE X (.Name x pos) (tC v) :=
  fun _ _ _ H _ I h => ld_blt I hg hm hv ⟨v, H, I, r, h⟩ hn hd

/-! ### arithmetic -/
variable {a b : Expr} {ta tb : TE} {pos : Pos}
/-! ### comparisons -/
def PC (X : Cx) (op : CmpOp) (a b : Expr) (t : TE) : Prop :=
  ∀ (pins : List (Addr × Obj)) (s : Shared) (σ : St) (H : Hp) (Q : VK), Inv X pins σ H s → t σ H Q →
    wpAny (model X.prog X.w) X.A (eval a X.env) (fun v s₁ => wpAny (model X.prog X.w) X.A (eval b X.env) (fun u s₂ => wpAny (model X.prog X.w) X.A (compareOp op v u) (EP X pins σ Q) X.xe s₂) X.xe s₁) X.xe s
theorem nobehind (b : Expr) {op : CmpOp} (h : op ≠ .In) (h2 : op ≠ .NotIn) : behindInMarks op b = false := by
  have e1 : (op == CmpOp.In) = false := by cases op <;> first | rfl | exact absurd rfl h
  have e2 : (op == CmpOp.NotIn) = false := by cases op <;> first | rfl | exact absurd rfl h2
  cases b <;> simp [behindInMarks, e1, e2]
/-- a comparison as a value, as a test -/
def tB (t : TE) : TT := fun σ H Q => t σ H fun x H1 => ∃ c, x = .bl c ∧ Q c H1
theorem pt_cmp {op : CmpOp} {t : TE} (h : PC X op a b t) (h1 : behindInMarks op b = false := by first | exact nobehind _ (by decide) (by decide) | rfl) : PT X (.Compare a [op] [b] pos) (tB t) := by
  intro pins s σ H Q I hw
  refine wpAny_isTrue_Compare1 (thn (h pins s σ H _ I hw) fun v s1 h1 => thn h1 fun u s2 h2 => thn h2 fun c s3 ⟨x, H1, I1, r1, q1⟩ => ?_) h1
  obtain ⟨d, rfl, q⟩ := q1
  cases r1
  exact wpAny_truthy_bool ⟨H1, I1, q⟩
/-- an expression whose value is a bool, as a test -/
theorem pt_val {e : Expr} {t : TE} (h : PE X e t) (he : ∀ whole, isTrue e X.env whole = (do let v ← whole; standAt e.pos; holding [v] (truthy v)) := by intro _; rfl) : PT X e (tB t) := by
  intro pins s σ H Q I hw
  refine isTrue_plain (thn (h pins s σ H _ I hw) fun v s1 ⟨x, H1, I1, r1, q1⟩ => ?_) (he _)
  obtain ⟨d, rfl, q⟩ := q1
  cases r1
  exact wpAny_truthy_bool ⟨H1, I1, q⟩

/-! ### and, or, not -/
variable {tA tB' : TT} {rest : List Expr}
def tOr (t u : TT) : TT := fun σ H Q => t σ H fun c H1 => if c = true then Q true H1 else u σ H1 Q
def tNot (t : TT) : TT := fun σ H Q => t σ H fun c H1 => Q (!c) H1
theorem pw_or1 (ha : PT X a tA) : PW X (.BoolOp .Or [a] pos) tA := by
  intro wh pins s σ H Q I h
  refine isTrue_or (thn (ha pins s σ H Q I h) fun c s1 e => ?_)
  cases c with
  | false => exact isTrue_or_nil e
  | true => exact e
theorem pw_or (ha : PT X a tA) (hb : PW X (.BoolOp .Or (b :: rest) pos) tB') : PW X (.BoolOp .Or (a :: b :: rest) pos) (tOr tA tB') := by
  intro wh pins s σ H Q I h
  refine isTrue_or (thn (ha pins s σ H _ I h) fun c s1 ⟨H1, I1, q1⟩ => ?_)
  cases c with
  | true => exact ⟨H1, I1, q1⟩
  | false => exact hb wh pins s1 σ H1 Q I1 q1
theorem pt_not (ha : PT X a tA) : PT X (.UnaryOp .Not a pos) (tNot tA) := by
  intro pins s σ H Q I h
  exact isTrue_not (ha pins s σ H (fun c H1 => Q (!c) H1) I h)
/-- .. as values (bools) -/
def tAndV (ta tb : TE) : TE := fun σ H Q => ta σ H fun x H1 => ∃ c, x = .bl c ∧ if c = true then tb σ H1 Q else Q (.bl false) H1
def tNotV (ta : TE) : TE := fun σ H Q => ta σ H fun x H1 => ∃ c, x = .bl c ∧ Q (.bl (!c)) H1
theorem pe_one {op} {t : TE} (h : PE X a t) : PE X (.BoolOp op [a] pos) t := fun pins s σ H Q I hw => BoolOp_one (h pins s σ H Q I hw)
theorem pe_and (ha : PE X a ta) (hb : PE X (.BoolOp .And (b :: rest) pos) tb) : PE X (.BoolOp .And (a :: b :: rest) pos) (tAndV ta tb) := by
  intro pins s σ H Q I h
  refine BoolOp_and (thn (ha pins s σ H _ I h) fun v s1 ⟨x, H1, I1, r1, q1⟩ => ?_)
  obtain ⟨c, rfl, q1⟩ := q1
  cases r1
  refine wpAny_truthy_bool ?_
  cases c with
  | true => exact hb pins s1 σ H1 Q I1 q1
  | false => exact ⟨.bl false, H1, I1, rfl, q1⟩
theorem pe_not (ha : PE X a ta) : PE X (.UnaryOp .Not a pos) (tNotV ta) := by
  intro pins s σ H Q I h
  refine UnaryOp_ (thn (ha pins s σ H _ I h) fun v s1 ⟨x, H1, I1, r1, q1⟩ => ?_)
  obtain ⟨c, rfl, q1⟩ := q1
  cases r1
  exact not_of (wpAny_truthy_bool ⟨.bl (!c), H1, I1, rfl, q1⟩)
end
end L2

namespace L2
open PySem PySem.Spec PyProof.Rows

/-! ### a list, a tuple that is read: tracked, frozen, or an object of the module -/
def SqL (K : PySem.W.Frag) (H : Hp) (a : Addr) (xs : List V) : Prop :=
  Rd H a (.lst xs) ∨
    ∃ (o : Obj) (its : Array Value) (n : Nat), K.lookup a = some o ∧ o.cls = .type "list" ∧ o.dict = none ∧ o.data = .seq its n ∧ its.size ≤ sizeLine ∧ Vals xs its.toList
def SqT (K : PySem.W.Frag) (H : Hp) (a : Addr) (xs : List V) : Prop :=
  Rd H a (.tup xs) ∨
    ∃ (o : Obj) (its : Array Value) (n : Nat), K.lookup a = some o ∧ o.cls = .type "tuple" ∧ o.data = .seq its n ∧ its.size ≤ sizeLine ∧ Vals xs its.toList
def absV : Value → Option V
  | .none => some .non
  | .bool b => some (.bl b)
  | .int i _ => some (.int i)
  | .str x _ => some (.str x)
  | .bytes b _ => some (.byt b)
  | .float b _ => some (.flt b)
  | .ref a => some (.ref a)
  | .type n => some (.ty n)
  | _ => none
theorem RelV.abs {x : V} {u : Value} (r : RelV x u) : absV u = some x := by
  cases x with
  | non => cases r; rfl
  | bl _ => cases r; rfl
  | int _ => obtain ⟨t, rfl⟩ := r; rfl
  | str _ => obtain ⟨t, rfl⟩ := r; rfl
  | byt _ => obtain ⟨t, rfl⟩ := r; rfl
  | flt _ => obtain ⟨t, rfl⟩ := r; rfl
  | ref _ => cases r; rfl
  | ty _ => cases r; rfl
theorem RelV.inj {x y : V} {u : Value} (r : RelV x u) (q : RelV y u) : x = y := Option.some.inj (r.abs.symm.trans q.abs)
theorem Vals.inj : ∀ {xs ys : List V} {us : List Value}, Vals xs us → Vals ys us → xs = ys
  | _, _, _, .nil, .nil => rfl
  | _, _, _, .cons r t, .cons r' t' => by rw [r.inj r', Vals.inj t t']
section
variable {X : Cx} {pins : List (Addr × Obj)} {σ : St} {H : Hp} {s : Shared} {a : Addr} {xs ys : List V}
theorem SqL.of {K : PySem.W.Frag} (h : H a = some (.lst xs)) : SqL K H a xs := .inl (.inl h)
theorem SqT.of {K : PySem.W.Frag} (h : H a = some (.tup xs)) : SqT K H a xs := .inl (.inl h)
theorem Inv.list (I : Inv X pins σ H s) (h : SqL X.K H a xs) : ∃ its : List Value, Vals xs its ∧ PlainL s.heap a its.toArray ∧ xs.length ≤ sizeLine := by
  rcases h with h | ⟨o, its, n, hk, hc, hd, hs, hz, r⟩
  · obtain ⟨z, its, n, r, e⟩ := h.ok I.hok
    exact ⟨its, r, ⟨_, n, e, rfl, rfl, rfl⟩, z⟩
  · refine ⟨its.toList, r, ⟨o, n, I.kIn a o hk, hc, hd, by simpa using hs⟩, ?_⟩
    have e := r.length
    simp only [Array.length_toList] at e
    omega
theorem Inv.tuple (I : Inv X pins σ H s) (h : SqT X.K H a xs) : ∃ its : List Value, Vals xs its ∧ IsTup s.heap a its.toArray ∧ xs.length ≤ sizeLine := by
  rcases h with h | ⟨o, its, n, hk, hc, hs, hz, r⟩
  · obtain ⟨z, its, r, p⟩ := h.ok I.hok
    exact ⟨its, r, p, z⟩
  · refine ⟨its.toList, r, ⟨o, I.kIn a o hk, hc, n, by simpa using hs⟩, ?_⟩
    have e := r.length
    simp only [Array.length_toList] at e
    omega
theorem Inv.list_inj (I : Inv X pins σ H s) (h : SqL X.K H a xs) (h' : SqL X.K H a ys) : xs = ys := by
  obtain ⟨its, r, ⟨o, n, e, _, _, d⟩, _⟩ := I.list h
  obtain ⟨its', r', ⟨o', n', e', _, _, d'⟩, _⟩ := I.list h'
  rw [e] at e'; cases e'
  rw [d] at d'
  injection d' with d1 _
  have : its = its' := by simpa using congrArg Array.toList d1
  subst this
  exact r.inj r'
theorem Inv.tuple_inj (I : Inv X pins σ H s) (h : SqT X.K H a xs) (h' : SqT X.K H a ys) : xs = ys := by
  obtain ⟨its, r, ⟨o, e, _, n, d⟩, _⟩ := I.tuple h
  obtain ⟨its', r', ⟨o', e', _, n', d'⟩, _⟩ := I.tuple h'
  rw [e] at e'; cases e'
  rw [d] at d'
  injection d' with d1 _
  have : its = its' := by simpa using congrArg Array.toList d1
  subst this
  exact r.inj r'
end

/-! ### another wish about exceptions -/
abbrev Cx.wish (X : Cx) (E : Value → Shared → Prop) : Cx := { X with xe := E }
/-- no exception leaves -/
abbrev Cx.nox (X : Cx) : Cx := X.wish fun _ _ => False
theorem Cx.Ok.wish {X : Cx} (ok : X.Ok) (E : Value → Shared → Prop) : (X.wish E).Ok :=
  ⟨ok.mod, ok.kind, ok.glob, ok.blt, ok.above, ok.inj, ok.has, ok.cab, ok.hd, ok.frames, ok.stk, ok.exf, ok.bs, ok.bsz, ok.noex, ok.exfs, ok.funs, ok.frf⟩
theorem Cx.Ok.unwish {X : Cx} {E : Value → Shared → Prop} (ok : (X.wish E).Ok) : X.Ok :=
  ⟨ok.mod, ok.kind, ok.glob, ok.blt, ok.above, ok.inj, ok.has, ok.cab, ok.hd, ok.frames, ok.stk, ok.exf, ok.bs, ok.bsz, ok.noex, ok.exfs, ok.funs, ok.frf⟩
section
variable {X : Cx} {pins : List (Addr × Obj)} {σ : St} {H : Hp} {s : Shared} {E : Value → Shared → Prop}
theorem Inv.wish (I : Inv X pins σ H s) (E : Value → Shared → Prop) : Inv (X.wish E) pins σ H s := ⟨I.ok.wish E, I.os, I.bare, I.base, I.loc, I.cell, I.free, I.freeC, I.pin, I.hok, I.len⟩
theorem Inv.unwish (I : Inv (X.wish E) pins σ H s) : Inv X pins σ H s := ⟨I.ok.unwish, I.os, I.bare, I.base, I.loc, I.cell, I.free, I.freeC, I.pin, I.hok, I.len⟩
theorem SP.unwish {D : Ends} {f : Flow} {s' : Shared} (h : SP (X.wish E) pins D f s') : SP X pins D f s' := by
  cases f with
  | next => obtain ⟨σ', H', I, q⟩ := h; exact ⟨σ', H', I.unwish, q⟩
  | brk => obtain ⟨σ', H', I, q⟩ := h; exact ⟨σ', H', I.unwish, q⟩
  | cont => obtain ⟨σ', H', I, q⟩ := h; exact ⟨σ', H', I.unwish, q⟩
  | ret u => obtain ⟨v, σ', H', I, r, q⟩ := h; exact ⟨v, σ', H', I.unwish, r, q⟩
theorem PE.nox {e : Expr} {t : TE} (h : PE X.nox e t) : PE X e t := fun pins s σ H Q I hw =>
  wpAny_mono (h pins s σ H Q (I.wish _) hw) (fun _ _ ⟨v, H', I', r, q⟩ => ⟨v, H', I'.unwish, r, q⟩) fun _ _ z => False.elim z
theorem PT.nox {e : Expr} {t : TT} (h : PT X.nox e t) : PT X e t := fun pins s σ H Q I hw =>
  wpAny_mono (h pins s σ H Q (I.wish _) hw) (fun _ _ ⟨H', I', q⟩ => ⟨H', I'.unwish, q⟩) fun _ _ z => False.elim z
theorem PSs.nox {st : List Stmt} {t : TS} (h : PSs X.nox st t) : PSs X st t := fun pins s σ H D I hw =>
  wpAny_mono (h pins s σ H D (I.wish _) hw) (fun _ _ q => q.unwish) fun _ _ z => False.elim z
end

/-! ### blocks and small statements -/
section
variable {X : Cx} {st : Stmt} {rest : List Stmt} {t u : TS} {e : Expr} {te : TE} {pos : Pos}
def tNext : TS := fun D σ H => D.nx σ H
def tSeq (t u : TS) : TS := fun D σ H => t { D with nx := u D } σ H
theorem pss_nil : PSs X [] tNext := fun _ _ σ H _ I h => wpAny_execs_nil ⟨σ, H, I, h⟩
theorem pss_cons (h1 : PS X st t) (h2 : PSs X rest u) : PSs X (st :: rest) (tSeq t u) := by
  intro pins s σ H D I h
  refine wpAny_execs_cons (thn (h1 pins s σ H { D with nx := u D } I h) fun f s1 q => ?_)
  cases f with
  | next =>
    obtain ⟨σ', H', I', q⟩ := q
    exact h2 pins s1 σ' H' D I' q
  | ret v => exact q
  | brk => exact q
  | cont => exact q
theorem pss_one (h1 : PS X st t) : PSs X [st] t := by
  intro pins s σ H D I h
  refine wpAny_execs_cons (thn (h1 pins s σ H D I h) fun f s1 q => ?_)
  cases f with
  | next => exact wpAny_execs_nil q
  | ret v => exact q
  | brk => exact q
  | cont => exact q
/-- in a def's body nothing is shown -/
theorem Inv.quiet {pins : List (Addr × Obj)} {σ : St} {H : Hp} {s : Shared} (I : Inv X pins σ H s) : interactive X.env = false := by simp [interactive, I.ok.kind]
/-- an expression whose value is dropped -/
def tDrop (te : TE) : TS := fun D σ H => te σ H fun _ H1 => D.nx σ H1
theorem ps_expr (he : PE X e te) (hs : swapsWith e none pos.line X.env = pure false := by rfl) : PS X (.Expr e pos) (tDrop te) := by
  intro pins s σ H D I h
  exact wpAny_Expr_any (thn (he pins s σ H _ I h) fun v s1 ⟨x, H1, I1, r1, q1⟩ => ⟨σ, H1, I1, q1⟩) I.quiet hs
def tRet (te : TE) : TS := fun D σ H => te σ H D.rt
theorem ps_ret (he : PE X e te) : PS X (.Return (some e) pos) (tRet te) := by
  intro pins s σ H D I h
  exact wpAny_Return_some (thn (he pins s σ H _ I h) fun v s1 ⟨x, H1, I1, r1, q1⟩ => ⟨x, σ, H1, I1, r1, q1⟩)
def tIfS (c : TT) (t u : TS) : TS := fun D σ H => c σ H fun b H1 => if b = true then t D σ H1 else u D σ H1
theorem ps_if {c : Expr} {a b : List Stmt} {tc : TT} (hc : PT X c tc) (ha : PSs X a t) (hb : PSs X b u) : PS X (.If c a b pos) (tIfS tc t u) := by
  intro pins s σ H D I h
  refine wpAny_If (thn (hc pins s σ H _ I h) fun d s1 ⟨H1, I1, q1⟩ => ?_)
  cases d with
  | true => exact ha pins s1 σ H1 D I1 q1
  | false => exact hb pins s1 σ H1 D I1 q1
end

/-! ### targets -/
abbrev TG := V → St → Hp → (St → Hp → Prop) → Prop
abbrev TGs := List V → St → Hp → (St → Hp → Prop) → Prop
def PG (X : Cx) (target : Expr) (t : TG) : Prop :=
  ∀ (pins : List (Addr × Obj)) (s : Shared) (σ : St) (H : Hp) (v : V) (u : Value) (Q : St → Hp → Prop), Inv X pins σ H s → RelV v u → t v σ H Q →
    wpAny (model X.prog X.w) X.A (assign target X.env u) (fun _ s' => ∃ σ' H', Inv X pins σ' H' s' ∧ Q σ' H') X.xe s
/-- several targets, one after another -/
def PGs (X : Cx) (ts : List Expr) (t : TGs) : Prop :=
  ∀ (pins : List (Addr × Obj)) (s : Shared) (σ : St) (H : Hp) (vs : List V) (us : List Value) (Q : St → Hp → Prop), Inv X pins σ H s → Vals vs us → t vs σ H Q →
    wpAny (model X.prog X.w) X.A (assignInOrder ((assignEach ts X.env).map (·.2)) us) (fun _ s' => ∃ σ' H', Inv X pins σ' H' s' ∧ Q σ' H') X.xe s
section
variable {X : Cx} {pos : Pos}
def gName (i : Nat) : TG := fun v σ H Q => Q (σ.set i (some v)) H
theorem pg_name {i : Nat} {x : Str} (hN : X.N.Nodup) (hi : X.N[i]? = some x) (hx : Loc X.env.scope x) (hf : X.fn x = true ∨ X.env.scope.names.lookup x = some .local := by first | exact .inl rfl | exact .inr rfl | assumption) : PG X (.Name x pos) (gName i) := by
  intro pins s σ H v u Q I r h
  exact wpAny_assign_Name (store_ok I hN hi hx r (fun s' I' => ⟨_, H, I', h⟩) hf)
def gNil : TGs := fun vs σ H Q => vs = [] ∧ Q σ H
def gCons (t : TG) (u : TGs) : TGs := fun vs σ H Q => ∃ v r, vs = v :: r ∧ t v σ H fun σ' H' => u r σ' H' Q
theorem pgs_nil : PGs X [] gNil := by
  intro pins s σ H vs us Q I r h
  obtain ⟨e, h⟩ := h
  subst e
  cases r
  exact assignInOrder_nil ⟨σ, H, I, h⟩
theorem pgs_cons {e : Expr} {es : List Expr} {t : TG} {u : TGs} (h1 : PG X e t) (h2 : PGs X es u)
    (hs : (assignEach (e :: es) X.env).map (·.2) = assign e X.env :: (assignEach es X.env).map (·.2) := by rfl) : PGs X (e :: es) (gCons t u) := by
  intro pins s σ H vs us Q I r h
  obtain ⟨v, vr, e1, h⟩ := h
  subst e1
  cases r with
  | cons r rr =>
    rw [hs]
    refine assignInOrder_cons (thn (h1 pins s σ H _ _ _ I r h) fun _ s1 ⟨σ1, H1, I1, q1⟩ => ?_)
    exact h2 pins s1 σ1 H1 _ _ Q I1 rr q1
/-- target = value -/
def tAsg (te : TE) (g : TG) : TS := fun D σ H => te σ H fun x H1 => g x σ H1 D.nx
/-- name = value -/
theorem ps_set {i : Nat} {x : Str} {e : Expr} {te : TE} {pos' : Pos} (hN : X.N.Nodup) (hi : X.N[i]? = some x) (hx : Loc X.env.scope x) (he : PE X e te) (hs : swapsWith e (some (.Name x pos')) pos.line X.env = pure false := by rfl) (hf : X.fn x = true ∨ X.env.scope.names.lookup x = some .local := by first | exact .inl rfl | exact .inr rfl | assumption) :
    PS X (.Assign [.Name x pos'] e pos) (tAsg te (gName i)) := by
  intro pins s σ H D I h
  refine wpAny_Assign_Name (thn (he pins s σ H _ I h) fun v s1 ⟨y, H1, I1, r1, q1⟩ => ?_) hs
  exact store_ok I1 hN hi hx r1 (fun s2 I2 => ⟨_, H1, I2, q1⟩) hf
end

/-! ### while -/
section
variable {X : Cx} {pos : Pos}
end

/-! ### what a loop or a comprehension walks -/
/-- at turn i: it yields x (the heap may grow), or it stops -/
structure It where
  go : Nat → Hp → Prop
  yld : Nat → Hp → V → Hp → Prop
  stop : Nat → Hp → Prop
/-- the iterator's own objects may turn: they are not the frame's, not pinned, younger than the entry (or a comprehension's own) -/
def FpOk (X : Cx) (pins : List (Addr × Obj)) (H : Hp) (b : Addr) : Prop :=
  H b = none ∧ b ≠ X.env.locals ∧ b ∉ X.fs ∧ (b ∈ X.ex ∨ X.s₀.heap.objs.size ≤ b) ∧ (∀ x c, X.env.cells.lookup x = some c → c ≠ b) ∧ ∀ p ∈ X.pn ++ pins, p.1 ≠ b
theorem Inv.fpOk {X : Cx} {pins : List (Addr × Obj)} {σ : St} {H H' : Hp} {s : Shared} {b : Addr} (I : Inv X pins σ H s) (hb : s.heap.objs.size ≤ b) (hn : H' b = none) : FpOk X pins H' b := by
  refine ⟨hn, Nat.ne_of_gt (Nat.lt_of_lt_of_le I.lt hb), I.nofs hb, .inr (Nat.le_trans I.sz hb), fun x c e z => ?_, fun p hp z => ?_⟩
  · obtain ⟨v, q⟩ := I.cell x c e
    exact absurd (Nat.lt_of_lt_of_le q.lt (by rw [z]; exact hb)) (Nat.lt_irrefl _)
  · exact absurd (Nat.lt_of_lt_of_le (Heap.lt_size (I.pin p hp).1) (by rw [z]; exact hb)) (Nat.lt_irrefl _)
structure Turn (P : Program) (w : World) (K : PySem.W.Frag) (tg : Expr) (J : It) (fp : List Addr) (it : Addr) (tn : Nat → Heap → Prop) : Prop where
  mem : it ∈ fp
  obj : ∀ i h, tn i h → ∀ b ∈ fp, ∃ o, h.get? b = some o ∧ ∀ v, o.data ≠ .cell v
  keep : ∀ i h h', tn i h → (∀ b ∈ fp, ∀ o, h.get? b = some o → h'.get? b = some o) → tn i h'
  item : ∀ (X : Cx), X.prog = P → X.w = w → X.K = K → X.calm = true → ∀ (i : Nat) (pins : List (Addr × Obj)) (s : Shared) (σ : St) (H : Hp) (E : Value → Shared → Prop), Inv X pins σ H s → (∀ b ∈ fp, FpOk X pins H b) → tn i s.heap → J.go i H →
    wpAny (model P w) X.A (pyNext (.ref it)) (fun r s1 => ∃ u, r = some u ∧
      wpAny (model P w) X.A (letOwnedTupleGo tg (.ref it) u) (fun _ s2 => ∃ x H', Inv X pins σ H' s2 ∧ RelV x u ∧ J.yld i H x H' ∧ tn (i + 1) s2.heap ∧ ∀ b ∈ fp, H' b = none) E s1) E s
  done : ∀ (X : Cx), X.prog = P → X.w = w → X.K = K → X.calm = true → ∀ (i : Nat) (pins : List (Addr × Obj)) (s : Shared) (σ : St) (H : Hp) (E : Value → Shared → Prop), Inv X pins σ H s → (∀ b ∈ fp, FpOk X pins H b) → tn i s.heap → J.stop i H →
    wpAny (model P w) X.A (pyNext (.ref it)) (fun r s1 => r = none ∧ Inv X pins σ H s1) E s
  self : ∀ (A : Around) (i : Nat) (s : Shared) (Q : Value → Shared → Prop) (E : Value → Shared → Prop), tn i s.heap → Q (.ref it) s → wpAny (model P w) A (pyIter (.ref it)) Q E s
abbrev TI := St → Hp → (It → Hp → Prop) → Prop
/-- an iterator has come -/
def PIE (X : Cx) (pins : List (Addr × Obj)) (σ : St) (tg : Expr) (R : It → Hp → Prop) (itv : Value) (s2 : Shared) : Prop :=
  ∃ (it : Addr) (fp : List Addr) (tn : Nat → Heap → Prop) (J : It) (H' : Hp), itv = .ref it ∧ Inv X pins σ H' s2 ∧ Turn X.prog X.w X.K tg J fp it tn ∧ tn 0 s2.heap ∧ (∀ b ∈ fp, FpOk X pins H' b) ∧ R J H'
def PI (X : Cx) (tg iter : Expr) (wi : TI) : Prop :=
  ∀ (pins : List (Addr × Obj)) (s : Shared) (σ : St) (H : Hp) (R : It → Hp → Prop), Inv X pins σ H s → wi σ H R →
    wpAny (model X.prog X.w) X.A (eval iter X.env) (fun v s1 => wpAny (model X.prog X.w) X.A (pyIter v) (PIE X pins σ tg R) X.xe s1) X.xe s

/-- the step ahead of the store is nothing for an iterator that keeps no tuple -/
theorem go_of {M : Model} {A : Around} {E : Value → Shared → Prop} {s : Shared} {tg : Expr} {it : Addr} {u : Value} {o : Obj} {n : String} {vs : Array Value} {Q : Unit → Shared → Prop} (ho : s.heap.get? it = some o) (hc : o.cls = .type n) (hd : o.data = .fields vs)
    (hn : ["enumerate", "zip", "dict_itemiterator", "dict_reverseitemiterator", "odict_iterator", "itertools.zip_longest", "itertools.pairwise"].contains n = false) (hQ : Q () s) : wpAny M A (letOwnedTupleGo tg (.ref it) u) Q E s := by
  unfold letOwnedTupleGo
  cases tg <;> first
    | exact wpAny_pure hQ
    | (cases u <;> first
        | exact wpAny_pure hQ
        | (refine wpAny_bind (wpAny_load ho ?_)
           rw [hc, hd]
           show wpAny M A (if (["enumerate", "zip", "dict_itemiterator", "dict_reverseitemiterator", "odict_iterator", "itertools.zip_longest", "itertools.pairwise"].contains n && vs[0]? == some (rawInt _)) = true then _ else _) Q E s
           rw [if_neg (by intro h; rw [hn, Bool.false_and] at h; cases h)]
           exact wpAny_pure hQ))

/-- the list at a, as it stands at each turn (a loop may append to it) -/
def Itl (K : PySem.W.Frag) (a : Addr) : It :=
  ⟨fun i H => ∃ xs x, SqL K H a xs ∧ xs[i]? = some x, fun i H x H' => H' = H ∧ ∀ xs, SqL K H a xs → xs[i]? = some x, fun i H => ∃ xs, SqL K H a xs ∧ xs.length ≤ i⟩
def Itt (K : PySem.W.Frag) (a : Addr) : It :=
  ⟨fun i H => ∃ xs x, SqT K H a xs ∧ xs[i]? = some x, fun i H x H' => H' = H ∧ ∀ xs, SqT K H a xs → xs[i]? = some x, fun i H => ∃ xs, SqT K H a xs ∧ xs.length ≤ i⟩
/-- lo, lo + 1, .. (n of them) -/
def Itr (lo : Int) (n : Nat) : It := ⟨fun i _ => i < n, fun i H x H' => H' = H ∧ x = .int (lo + i), fun i _ => n ≤ i⟩
theorem turn_list {P : Program} {w : World} {K : PySem.W.Frag} {tg : Expr} (a it : Addr) : Turn P w K tg (Itl K a) [it] it (fun i h => h.IsListIter it a i) where
  mem := by simp
  obj := fun i h st b hb => by
    have e : b = it := by simpa using hb
    subst e
    obtain ⟨o, e, c, d⟩ := st
    exact ⟨o, e, fun v z => by rw [d] at z; cases z⟩
  keep := fun i h h' st k => st.at fun o e => k it (by simp) o e
  item := by
    intro X hP hw hK hc i pins s σ H E I hf st hg
    subst hP hw hK
    obtain ⟨xs, x, hq, hx⟩ := hg
    obtain ⟨its, rv, p, hz⟩ := I.list hq
    obtain ⟨u, hu, ru⟩ := rv.get hx
    obtain ⟨f0, f1, f2, f3, f4, f5⟩ := hf it (by simp)
    refine wpAny_pyNext_list_item st p.isList (x := u) (by simpa using hu) fun h' st' sb => ?_
    have I1 : Inv X pins σ H { s with heap := h' } := I.turned (t' := s.toks) (fun b o hb e => (sb.2 b hb).trans e) f0 f1 f3 f4 f5
    obtain ⟨o, e, c, d⟩ := id st'
    exact ⟨u, rfl, go_of (s := { s with heap := h' }) e c d (by decide) ⟨x, H, I1, ru, ⟨rfl, fun ys hy => by rw [I.list_inj hy hq]; exact hx⟩, st', fun b hb => (hf b hb).1⟩⟩
  done := by
    intro X hP hw hK hc i pins s σ H E I hf st hg
    subst hP hw hK
    obtain ⟨xs, hq, hx⟩ := hg
    obtain ⟨its, rv, p, hz⟩ := I.list hq
    obtain ⟨f0, f1, f2, f3, f4, f5⟩ := hf it (by simp)
    have hl := rv.length
    exact wpAny_pyNext_list_end (I.ok.hd hc) st p.isList (by simp; omega) fun h' eb => ⟨rfl, I.turned (t' := s.toks) (fun b o hb e => eb b o hb e) f0 f1 f3 f4 f5⟩
  self := fun _ _ _ _ _ st h => wpAny_pyIter_listiter st h
theorem turn_tuple {P : Program} {w : World} {K : PySem.W.Frag} {tg : Expr} (a it : Addr) : Turn P w K tg (Itt K a) [it] it (fun i h => h.IsTupleIter it a i) where
  mem := by simp
  obj := fun i h st b hb => by
    have e : b = it := by simpa using hb
    subst e
    obtain ⟨o, e, c, d⟩ := st
    exact ⟨o, e, fun v z => by rw [d] at z; cases z⟩
  keep := fun i h h' st k => st.at fun o e => k it (by simp) o e
  item := by
    intro X hP hw hK hc i pins s σ H E I hf st hg
    subst hP hw hK
    obtain ⟨xs, x, hq, hx⟩ := hg
    obtain ⟨its, rv, p, hz⟩ := I.tuple hq
    obtain ⟨u, hu, ru⟩ := rv.get hx
    obtain ⟨f0, f1, f2, f3, f4, f5⟩ := hf it (by simp)
    refine wpAny_pyNext_tuple_item st (show s.heap.IsTuple a its.toArray from p) (x := u) (by simpa using hu) fun h' st' sb => ?_
    have I1 : Inv X pins σ H { s with heap := h' } := I.turned (t' := s.toks) (fun b o hb e => (sb.2 b hb).trans e) f0 f1 f3 f4 f5
    obtain ⟨o, e, c, d⟩ := id st'
    exact ⟨u, rfl, go_of (s := { s with heap := h' }) e c d (by decide) ⟨x, H, I1, ru, ⟨rfl, fun ys hy => by rw [I.tuple_inj hy hq]; exact hx⟩, st', fun b hb => (hf b hb).1⟩⟩
  done := by
    intro X hP hw hK hc i pins s σ H E I hf st hg
    subst hP hw hK
    obtain ⟨xs, hq, hx⟩ := hg
    obtain ⟨its, rv, p, hz⟩ := I.tuple hq
    obtain ⟨f0, f1, f2, f3, f4, f5⟩ := hf it (by simp)
    have hl := rv.length
    exact wpAny_pyNext_tuple_end (I.ok.hd hc) st (show s.heap.IsTuple a its.toArray from p) (by simp; omega) fun h' eb => ⟨rfl, I.turned (t' := s.toks) (fun b o hb e => eb b o hb e) f0 f1 f3 f4 f5⟩
  self := fun _ _ _ _ _ st h => wpAny_pyIter_tupleiter st h
theorem turn_range {P : Program} {w : World} {K : PySem.W.Frag} {tg : Expr} (it : Addr) (lo : Int) (n : Nat) : Turn P w K tg (Itr lo n) [it] it (fun i h => IsRangeIter h it (lo + (i : Nat) * 1) ((n : Int) - (i : Nat)) 1) where
  mem := by simp
  obj := fun i h st b hb => by
    have e : b = it := by simpa using hb
    subst e
    exact ⟨_, st, fun v z => by
      have z' : Data.fields _ = Data.cell v := z
      cases z'⟩
  keep := fun i h h' st k => k it (by simp) _ st
  item := by
    intro X hP hw hK hc i pins s σ H E I hf st hg
    subst hP hw hK
    obtain ⟨f0, f1, f2, f3, f4, f5⟩ := hf it (by simp)
    have W := Walks.range (prog := X.prog) (w := X.w) (I.ok.hd hc) it lo 1 n
    refine W.item i s _ _ hg st fun v h' tk hv st' kk => ?_
    obtain ⟨t, rfl⟩ := hv
    have I1 : Inv X pins σ H { s with heap := h', toks := tk } := I.turned (fun b o hb e => kk b o (by simpa using hb) e) f0 f1 f3 f4 f5
    refine ⟨_, rfl, go_of (s := { s with heap := h', toks := tk }) (n := "range_iterator") st' rfl rfl (by decide) ⟨.int (lo + i), H, I1, ⟨t, ?_⟩, ⟨rfl, rfl⟩, st', fun b hb => (hf b hb).1⟩⟩
    rw [Int.mul_one]
  done := by
    intro X hP hw hK hc i pins s σ H E I hf st hg
    subst hP hw hK
    obtain ⟨f0, f1, f2, f3, f4, f5⟩ := hf it (by simp)
    exact wpAny_pyNext_range_end (I.ok.hd hc) st (by have : n ≤ i := hg; omega) fun h' eb => ⟨rfl, I.turned (t' := s.toks) (fun b o hb e => eb b o hb e) f0 f1 f3 f4 f5⟩
  self := fun _ _ _ _ _ st h => wpAny_pyIter_rangeiter st h
end L2

namespace L2
open PySem PySem.Spec PyProof.Rows
section
variable {X : Cx} {tg : Expr}
def iList (K : PySem.W.Frag) (tl : TE) : TI := fun σ H R => tl σ H fun x H1 => ∃ a, x = .ref a ∧ (∃ xs, SqL K H1 a xs) ∧ R (Itl K a) H1
def iTup (K : PySem.W.Frag) (tl : TE) : TI := fun σ H R => tl σ H fun x H1 => ∃ a, x = .ref a ∧ (∃ xs, SqT K H1 a xs) ∧ R (Itt K a) H1
theorem pi_list {l : Expr} {tl : TE} (hl : PE X l tl) : PI X tg l (iList X.K tl) := by
  intro pins s σ H R I h
  refine thn (hl pins s σ H _ I h) fun v s1 ⟨x, H1, I1, r1, q1⟩ => ?_
  obtain ⟨a, e, ⟨xs, hq⟩, q⟩ := q1
  subst e
  cases r1
  obtain ⟨its, rv, p, hz⟩ := I1.list hq
  refine wpAny_pyIter_list p.isList ?_
  refine ⟨s1.heap.objs.size, [s1.heap.objs.size], _, _, H1, rfl, I1.kept (t' := s1.toks) fun b o e => Heap.get?_push_of_some _ e, turn_list a _, ⟨_, Heap.get?_push_size _ rfl, rfl, rfl⟩, fun b hb => ?_, q⟩
  have e : b = s1.heap.objs.size := by simpa using hb
  subst e
  exact I1.fpOk (Nat.le_refl _) (I1.hok.fresh (Nat.le_refl _))
theorem pi_tup {l : Expr} {tl : TE} (hl : PE X l tl) : PI X tg l (iTup X.K tl) := by
  intro pins s σ H R I h
  refine thn (hl pins s σ H _ I h) fun v s1 ⟨x, H1, I1, r1, q1⟩ => ?_
  obtain ⟨a, e, ⟨xs, hq⟩, q⟩ := q1
  subst e
  cases r1
  obtain ⟨its, rv, p, hz⟩ := I1.tuple hq
  refine wpAny_pyIter_tuple (show s1.heap.IsTuple a its.toArray from p) ?_
  refine ⟨s1.heap.objs.size, [s1.heap.objs.size], _, _, H1, rfl, I1.kept (t' := s1.toks) fun b o e => Heap.get?_push_of_some _ e, turn_tuple a _, ⟨_, Heap.get?_push_size _ rfl, rfl, rfl⟩, fun b hb => ?_, q⟩
  have e : b = s1.heap.objs.size := by simpa using hb
  subst e
  exact I1.fpOk (Nat.le_refl _) (I1.hok.fresh (Nat.le_refl _))
/-- a range object just made, walked -/
theorem range_it {pins : List (Addr × Obj)} {σ : St} {H : Hp} {s : Shared} {R : It → Hp → Prop} {E : Value → Shared → Prop} {lo hi : Int} {t u v : Tok} {tk : Nat} (I : Inv X pins σ H s) (h1 : -(2 ^ 62) ≤ lo) (h2 : lo < 2 ^ 62) (h3 : -(2 ^ 62) ≤ hi) (h4 : hi < 2 ^ 62)
    (q : R (Itr lo (hi - lo).toNat) H) : wpAny (model X.prog X.w) X.A (pyIter (.ref s.heap.objs.size)) (PIE X pins σ tg R) E { s with heap := s.heap.push { cls := .type "range", data := .fields #[.int lo t, .int hi u, .int 1 v] }, toks := tk } := by
  refine wpAny_pyIter_range (IsRange.new ..) (small_one h1 h2 h3 h4) ?_
  have I1 : Inv X pins σ H { s with heap := s.heap.push { cls := .type "range", data := .fields #[.int lo t, .int hi u, .int 1 v] }, toks := tk } := I.kept fun b o e => Heap.get?_push_of_some _ e
  refine ⟨(s.heap.push { cls := .type "range", data := .fields #[.int lo t, .int hi u, .int 1 v] }).objs.size, [(s.heap.push { cls := .type "range", data := .fields #[.int lo t, .int hi u, .int 1 v] }).objs.size], _, _, H, rfl,
    I1.kept (t' := tk) fun b o e => Heap.get?_push_of_some _ e, turn_range _ lo (hi - lo).toNat, ?_, fun b hb => ?_, q⟩
  · have e1 : lo + ((0 : Nat) : Int) * 1 = lo := by simp
    have e2 : (((hi - lo).toNat : Nat) : Int) - ((0 : Nat) : Int) = Builtin.Range.rangeSize lo hi 1 := by rw [rangeSize_one]; split <;> omega
    show IsRangeIter _ _ (lo + ((0 : Nat) : Int) * 1) ((((hi - lo).toNat : Nat) : Int) - ((0 : Nat) : Int)) 1
    rw [e1, e2]
    exact Heap.get?_push_size _ rfl
  · have e : b = (s.heap.push { cls := .type "range", data := .fields #[.int lo t, .int hi u, .int 1 v] }).objs.size := by simpa using hb
    subst e
    exact I1.fpOk (Nat.le_refl _) (I1.hok.fresh (Nat.le_refl _))
def iRng1 (ta : TA) : TI := fun σ H R => ta σ H fun vs H1 => ∃ j : Int, vs = [.int j] ∧ -(2 ^ 62) ≤ j ∧ j < 2 ^ 62 ∧ R (Itr 0 j.toNat) H1
theorem pi_range1 {a : Expr} {ta : TA} {p pos : Pos} (hg : Gl X "range") (hm : X.mg "range" = none) (ha : PA X [a] ta) (hs : starEach [a] X.env = [(false, eval a X.env)] := by rfl) : PI X tg (.Call (.Name "range" p) [a] [] pos) (iRng1 ta) := by
  intro pins s σ H R I h
  refine Call_ (ld_blt I hg hm boot_range (PyProof.Rows.callWith_type1 (thn (ha pos pins s σ H _ I h) fun us s1 ⟨vs, H1, I1, r1, q1⟩ => ?_) hs rfl))
  obtain ⟨j, e, q1, q2, q⟩ := q1
  subst e
  cases r1 with
  | cons r rr =>
    cases rr
    obtain ⟨t, rfl⟩ := r
    exact call_range_1 (range_it I1 (by omega) (by omega) q1 q2 (by simpa using q))
/-! ### for -/
/-- W: the invariant by the turn and a measure; N: what the body is to reach -/
def tFor (wi : TI) (g : TG) (tb : TS) : TS := fun D σ H => wi σ H fun J H1 => ∃ W : Nat → Nat → St → Hp → Prop, (∃ m, W 0 m σ H1) ∧ ∀ i m σ H, W i m σ H →
  (J.stop i H ∧ D.nx σ H) ∨ (J.go i H ∧ ∃ N : St → Hp → Prop, (∀ σ' H', N σ' H' → ∃ m', m' < m ∧ W (i + 1) m' σ' H') ∧ ∀ x H', J.yld i H x H' → g x σ H' fun σ2 H2 => tb { D with nx := N, ct := N, bk := D.nx } σ2 H2)
/-- the records at fp as they stand -/
def pinsAt (fp : List Addr) (h : Heap) : List (Addr × Obj) := fp.filterMap fun b => (h.get? b).map fun o => (b, o)
theorem mem_pinsAt {fp : List Addr} {h : Heap} {b : Addr} {o : Obj} (hb : b ∈ fp) (e : h.get? b = some o) : (b, o) ∈ pinsAt fp h := List.mem_filterMap.mpr ⟨b, hb, by rw [e]; rfl⟩
theorem of_pinsAt {fp : List Addr} {h : Heap} {p : Addr × Obj} (hp : p ∈ pinsAt fp h) : p.1 ∈ fp ∧ h.get? p.1 = some p.2 := by
  obtain ⟨b, hb, e⟩ := List.mem_filterMap.mp hp
  cases q : h.get? b with
  | none => rw [q] at e; cases e
  | some o =>
    rw [q] at e
    have e' : (b, o) = p := Option.some.inj e
    subst e'
    exact ⟨hb, q⟩
theorem Inv.pinned {pins : List (Addr × Obj)} {σ : St} {H : Hp} {s : Shared} {fp : List Addr} (I : Inv X pins σ H s) (hf : ∀ b ∈ fp, FpOk X pins H b) (ho : ∀ b ∈ fp, ∃ o, s.heap.get? b = some o ∧ ∀ v, o.data ≠ .cell v) : Inv X (pins ++ pinsAt fp s.heap) σ H s :=
  I.pins_of fun p hp => (List.mem_append.mp hp).elim (fun z => I.pin p (List.mem_append_right _ z)) fun z => by
    obtain ⟨hb, e⟩ := of_pinsAt z
    obtain ⟨f0, f1, f2, _⟩ := hf p.1 hb
    obtain ⟨o, e', d⟩ := ho p.1 hb
    rw [e] at e'; cases e'
    exact ⟨e, f0, f1, f2, d⟩
theorem Inv.unpinned {pins pl : List (Addr × Obj)} {σ : St} {H : Hp} {s : Shared} (I : Inv X (pins ++ pl) σ H s) : Inv X pins σ H s := I.pins_of fun p hp => I.pin p (List.mem_append_right _ (List.mem_append_left _ hp))
theorem ps_for {iter : Expr} {body : List Stmt} {wi : TI} {g : TG} {tb : TS} {pos : Pos} (hp : PassesOwn (model X.prog X.w) X.A X.env X.xe) (hc : X.calm = true) (hi : PI X tg iter wi) (hg : PG X tg g) (hb : PSs X body tb)
    (hs : ∀ x, foldedSetIterable iter X.env x = pure x := by intro _; rfl) : PS X (.For tg iter body [] pos) (tFor wi g tb) := by
  intro pins s σ H D I h
  refine wpAny_For (thn (hi pins s σ H _ I h) fun v s1 h1 => thn h1 fun itv s2 h2 => ?_) hs
  obtain ⟨it, fp, tn, J, H2, e, I2, T, st2, f2, W, ⟨m0, w0⟩, turn⟩ := h2
  subst e
  -- what stays true of the iterator's objects through the loop
  have stat : ∀ {H' : Hp}, (∀ b ∈ fp, H' b = none) → ∀ b ∈ fp, FpOk X pins H' b := fun hn b hb => ⟨hn b hb, (f2 b hb).2⟩
  refine codeAny_forLoop_any (fun n s' => ∃ i σ' H', Inv X pins σ' H' s' ∧ tn i s'.heap ∧ (∀ b ∈ fp, H' b = none) ∧ W i n σ' H') ?_ m0 ⟨0, σ, H2, I2, st2, fun b hb => (f2 b hb).1, w0⟩
  rintro n s3 ⟨i, σ3, H3, I3, st3, fr3, w3⟩
  rcases turn i n σ3 H3 w3 with ⟨stop, qn⟩ | ⟨go, N, hN, step⟩
  · refine wpAny_passesOwn hp (thn (T.done X rfl rfl rfl hc i pins s3 σ3 H3 X.xe I3 (stat fr3) st3 stop) fun r s4 ⟨hr, I4⟩ => ?_)
    subst hr
    exact wpAny_execs_nil ⟨σ3, H3, I4, qn⟩
  · refine wpAny_passesOwn hp (thn (T.item X rfl rfl rfl hc i pins s3 σ3 H3 X.xe I3 (stat fr3) st3 go) fun r s4 ⟨u, hr, h4⟩ => ?_)
    subst hr
    refine wpAny_passesOwn hp (thn h4 fun _ s5 ⟨x, H5, I5, r5, y5, st5, fr5⟩ => ?_)
    have I5' := I5.pinned (stat fr5) (T.obj _ _ st5)
    refine wpAny_passesOwn hp (thn (hg _ s5 σ3 H5 x u _ I5' r5 (step x H5 y5)) fun _ s6 ⟨σ6, H6, I6, q6⟩ => ?_)
    refine wpAny_passesOwn hp (thn (hb _ s6 σ6 H6 _ I6 q6) fun f s7 q7 => ?_)
    have again : ∀ {σ7 : St} {H7 : Hp}, Inv X (pins ++ pinsAt fp s5.heap) σ7 H7 s7 → N σ7 H7 → ∃ m, m < n ∧ ∃ i σ' H', Inv X pins σ' H' s7 ∧ tn i s7.heap ∧ (∀ b ∈ fp, H' b = none) ∧ W i m σ' H' := fun {σ7 H7} I7 n7 => by
      obtain ⟨m', hm, w7⟩ := hN σ7 H7 n7
      refine ⟨m', hm, i + 1, σ7, H7, I7.unpinned, T.keep _ _ _ st5 fun b hb o e => (I7.pin (b, o) (List.mem_append_right _ (List.mem_append_right _ (mem_pinsAt hb e)))).1, fun b hb => ?_, w7⟩
      obtain ⟨o, e, d⟩ := T.obj _ _ st5 b hb
      exact (I7.pin (b, o) (List.mem_append_right _ (List.mem_append_right _ (mem_pinsAt hb e)))).2.1
    cases f with
    | next => obtain ⟨σ7, H7, I7, n7⟩ := q7; exact again I7 n7
    | cont => obtain ⟨σ7, H7, I7, n7⟩ := q7; exact again I7 n7
    | brk => obtain ⟨σ7, H7, I7, q7⟩ := q7; exact ⟨σ7, H7, I7.unpinned, q7⟩
    | ret v => obtain ⟨x7, σ7, H7, I7, r7, q7⟩ := q7; exact ⟨x7, σ7, H7, I7.unpinned, r7, q7⟩
end

/-! ### the forms one uses -/
end L2

namespace L2
open PySem PySem.Spec PyProof.Rows

abbrev R2 := V → V → Hp → VK → Prop
/-- a two-place operation on values: f is binaryOp op, inplaceOp op or compareOp op -/
def OpR (X : Cx) (f : Value → Value → Sem Value) (r : R2) : Prop :=
  ∀ (pins : List (Addr × Obj)) (s : Shared) (σ : St) (H : Hp) (x y : V) (v u : Value) (Q : VK), Inv X pins σ H s → RelV x v → RelV y u → r x y H Q →
    wpAny (model X.prog X.w) X.A (f v u) (EP X pins σ Q) X.xe s
/-- a one-place operation -/
def UnR (X : Cx) (f : Value → Sem Value) (r : V → Hp → VK → Prop) : Prop :=
  ∀ (pins : List (Addr × Obj)) (s : Shared) (σ : St) (H : Hp) (x : V) (v : Value) (Q : VK), Inv X pins σ H s → RelV x v → r x H Q →
    wpAny (model X.prog X.w) X.A (f v) (EP X pins σ Q) X.xe s
/-- a call of a value that is known (a builtin, a type) with values -/
def CallR (X : Cx) (f : Value) (r : List V → Hp → VK → Prop) : Prop :=
  ∀ (pins : List (Addr × Obj)) (s : Shared) (σ : St) (H : Hp) (xs : List V) (us : List Value) (Q : VK), Inv X pins σ H s → Vals xs us → r xs H Q →
    wpAny (model X.prog X.w) X.A (call f us) (EP X pins σ Q) X.xe s
def tOp (r : R2) (ta tb : TE) : TE := fun σ H Q => ta σ H fun x H1 => tb σ H1 fun y H2 => r x y H2 Q
def tUn (r : V → Hp → VK → Prop) (ta : TE) : TE := fun σ H Q => ta σ H fun x H1 => r x H1 Q
/-- ints in, under C, and a value out -/
def rI (C : Int → Int → Prop) (g : Int → Int → V) : R2 := fun x y H Q => ∃ i j, x = .int i ∧ y = .int j ∧ C i j ∧ Q (g i j) H
def rI0 (g : Int → Int → V) : R2 := fun x y H Q => ∃ i j, x = .int i ∧ y = .int j ∧ Q (g i j) H
def rU (g : Int → V) : V → Hp → VK → Prop := fun x H Q => ∃ i, x = .int i ∧ Q (g i) H

section
variable {X : Cx} {a b c : Expr} {ta tb tc : TE} {pos : Pos}

theorem binT (ha : PE X a ta) (hb : PE X b tb) {pins : List (Addr × Obj)} {s : Shared} {σ : St} {H : Hp} {R : V → V → Hp → Prop} (I : Inv X pins σ H s)
    (h : ta σ H fun x H1 => tb σ H1 fun y H2 => R x y H2) {Q : Value → Shared → Prop} {f : Value → Value → Sem Value}
    (hf : ∀ v u s2 x y H2, Inv X pins σ H2 s2 → RelV x v → RelV y u → R x y H2 → wpAny (model X.prog X.w) X.A (f v u) Q X.xe s2) :
    wpAny (model X.prog X.w) X.A (eval a X.env) (fun v s₁ => wpAny (model X.prog X.w) X.A (eval b X.env) (fun u s₂ => wpAny (model X.prog X.w) X.A (f v u) Q X.xe s₂) X.xe s₁) X.xe s := by
  refine thn (ha pins s σ H _ I h) fun v s1 ⟨x, H1, I1, r1, q1⟩ => ?_
  refine thn (hb pins s1 σ H1 _ I1 q1) fun u s2 ⟨y, H2, I2, r2, q2⟩ => ?_
  exact hf v u s2 x y H2 I2 r1 r2 q2

theorem pe_op {op : Operator} {r : R2} (ho : OpR X (binaryOp op) r) (ha : PE X a ta) (hb : PE X b tb) : PE X (.BinOp a op b pos) (tOp r ta tb) := by
  intro pins s σ H Q I h
  exact wpAny_BinOp (binT ha hb I h fun v u s2 x y H2 I2 rx ry q => ho pins s2 σ H2 x y v u Q I2 rx ry q)
theorem pe_un {op : UnaryOp} {r : V → Hp → VK → Prop} (ho : UnR X (unaryOp op) r) (ha : PE X a ta) : PE X (.UnaryOp op a pos) (tUn r ta) := by
  intro pins s σ H Q I h
  exact UnaryOp_ (thn (ha pins s σ H _ I h) fun v s1 ⟨x, H1, I1, r1, q1⟩ => ho pins s1 σ H1 x v Q I1 r1 q1)
/-! ### ints -/
theorem opI {f : Value → Value → Sem Value} {C : Int → Int → Prop} {g : Int → Int → Int}
    (rule : ∀ (i j : Int) (t u : Tok) (s : Shared) (Q : Value → Shared → Prop) (E : Value → Shared → Prop), C i j → Q (.int (g i j) s.toks) { s with toks := s.toks + 1 } → wpAny (model X.prog X.w) X.A (f (.int i t) (.int j u)) Q E s) :
    OpR X f (rI C fun i j => .int (g i j)) := by
  intro pins s σ H x y v u Q I rx ry h
  obtain ⟨i, j, rfl, rfl, hc, q⟩ := h
  obtain ⟨t, rfl⟩ := rx
  obtain ⟨t', rfl⟩ := ry
  exact rule i j t t' s _ _ hc ⟨.int (g i j), H, I.tok _, ⟨_, rfl⟩, q⟩
theorem opI0 {f : Value → Value → Sem Value} {g : Int → Int → Int}
    (rule : ∀ (i j : Int) (t u : Tok) (s : Shared) (Q : Value → Shared → Prop) (E : Value → Shared → Prop), Q (.int (g i j) s.toks) { s with toks := s.toks + 1 } → wpAny (model X.prog X.w) X.A (f (.int i t) (.int j u)) Q E s) :
    OpR X f (rI0 fun i j => .int (g i j)) := by
  intro pins s σ H x y v u Q I rx ry h
  obtain ⟨i, j, rfl, rfl, q⟩ := h
  obtain ⟨t, rfl⟩ := rx
  obtain ⟨t', rfl⟩ := ry
  exact rule i j t t' s _ _ ⟨.int (g i j), H, I.tok _, ⟨_, rfl⟩, q⟩
theorem opB0 {f : Value → Value → Sem Value} {g : Int → Int → Bool}
    (rule : ∀ (i j : Int) (t u : Tok) (s : Shared) (Q : Value → Shared → Prop) (E : Value → Shared → Prop), Q (.bool (g i j)) s → wpAny (model X.prog X.w) X.A (f (.int i t) (.int j u)) Q E s) :
    OpR X f (rI0 fun i j => .bl (g i j)) := by
  intro pins s σ H x y v u Q I rx ry h
  obtain ⟨i, j, rfl, rfl, q⟩ := h
  obtain ⟨t, rfl⟩ := rx
  obtain ⟨t', rfl⟩ := ry
  exact rule i j t t' s _ _ ⟨.bl (g i j), H, I, rfl, q⟩

def CDiv (i j : Int) : Prop := 0 < j ∧ j < 1073741824
def CPow (i j : Int) : Prop := 0 ≤ j ∧ j ≤ 1000000 ∧ i.natAbs < 2 ^ 64
def CMul (i j : Int) : Prop := (-(2 ^ 64) < i ∧ i < 2 ^ 64) ∨ (-(2 ^ 64) < j ∧ j < 2 ^ 64)
theorem CMul.ok {i j : Int} (h : CMul i j) : IntMulOk i j := by
  rcases h with ⟨h1, h2⟩ | ⟨h1, h2⟩
  · exact .of_left (intBits_le_64 h1 h2)
  · exact .of_right (intBits_le_64 h1 h2)
theorem two_pow_nn (k : Nat) : (0 : Int) ≤ 2 ^ k := by
  rw [two_pow_cast]
  exact Int.natCast_nonneg _

theorem op_add : OpR X (binaryOp .Add) (rI0 fun i j => .int (i + j)) := opI0 fun _ _ _ _ _ _ _ q => add_int q
theorem op_sub : OpR X (binaryOp .Sub) (rI0 fun i j => .int (i - j)) := opI0 fun _ _ _ _ _ _ _ q => sub_int q
theorem op_mul : OpR X (binaryOp .Mult) (rI CMul fun i j => .int (i * j)) := opI fun _ _ _ _ _ _ _ hc q => mul_int q hc.ok
/-- // by a positive divisor -/
theorem op_fdiv : OpR X (binaryOp .FloorDiv) (rI CDiv fun i j => .int (i / j)) := opI fun i j _ _ _ _ _ hc q => by
  have h1 : (0 : Int) < j := hc.1
  have h2 : j < 1073741824 := hc.2
  exact floordiv_int (by omega) (by rw [Int.fdiv_eq_ediv_of_nonneg i (by omega)]; exact q) (.inl (PyProof.noPylong_small (by omega)))
/-- % by a positive divisor of any size -/
theorem op_mod : OpR X (binaryOp .Mod) (rI (fun _ j => 0 < j) fun i j => .int (i % j)) := opI fun i j _ _ _ _ _ hc q => by
  have h1 : (0 : Int) < j := hc
  exact mod_int' (by omega) (by rw [Int.fmod_eq_emod_of_nonneg i (by omega)]; exact q)
theorem op_pow : OpR X (binaryOp .Pow) (rI CPow fun i j => .int (i ^ j.toNat)) := opI fun _ _ _ _ _ _ _ hc q => pow_int_small hc.1 hc.2.1 hc.2.2 q
theorem op_shr : OpR X (binaryOp .RShift) (rI (fun _ j => 0 ≤ j) fun i j => .int (i / 2 ^ j.toNat)) := opI fun i j _ _ _ _ _ hc q =>
  rshift_int hc (by rw [Int.fdiv_eq_ediv_of_nonneg i (two_pow_nn _)]; exact q)
theorem op_and : OpR X (binaryOp .BitAnd) (rI0 fun i j => .int (Builtin.bitAnd i j)) := opI0 fun _ _ _ _ _ _ _ q => and_int q
theorem unI {f : Value → Sem Value} {g : Int → Int}
    (rule : ∀ (i : Int) (t : Tok) (s : Shared) (Q : Value → Shared → Prop) (E : Value → Shared → Prop), Q (.int (g i) s.toks) { s with toks := s.toks + 1 } → wpAny (model X.prog X.w) X.A (f (.int i t)) Q E s) :
    UnR X f (rU fun i => .int (g i)) := by
  intro pins s σ H x v Q I rx h
  obtain ⟨i, rfl, q⟩ := h
  obtain ⟨t, rfl⟩ := rx
  exact rule i t s _ _ ⟨.int (g i), H, I.tok _, ⟨_, rfl⟩, q⟩
theorem un_neg : UnR X (unaryOp .USub) (rU fun i => .int (-i)) := unI fun _ _ _ _ _ q => neg_int q
/-! ### bools among ints: n += (a < b) -/
end

/-! ### comparisons -/
/-- the scalars that == tells apart as data does -/
def scal : V → V → Bool
  | .non, .non => true | .non, .int _ => true | .int _, .non => true | .non, .bl _ => true | .bl _, .non => true | .non, .str _ => true | .str _, .non => true
  | .int _, .int _ => true | .bl _, .bl _ => true | .str _, .str _ => true | .byt _, .byt _ => true
  | .int _, .str _ => true | .str _, .int _ => true | .bl _, .str _ => true | .str _, .bl _ => true
  | _, _ => false
def rEq : R2 := fun x y H Q => scal x y = true ∧ Q (.bl (decide (x = y))) H
def rNe : R2 := fun x y H Q => scal x y = true ∧ Q (.bl (!decide (x = y))) H

theorem dec_int {i j : Int} : decide (V.int i = V.int j) = (i == j) := by
  rw [Bool.eq_iff_iff]
  simp
theorem dec_bl {i j : Bool} : decide (V.bl i = V.bl j) = (i == j) := by
  rw [Bool.eq_iff_iff]
  simp
theorem dec_str {i j : Str} : decide (V.str i = V.str j) = (i == j) := by
  rw [Bool.eq_iff_iff]
  simp
theorem dec_byt {i j : Array UInt8} : decide (V.byt i = V.byt j) = (i.toList == j.toList) := by
  rw [Bool.eq_iff_iff]
  cases i
  cases j
  simp

section
variable {X : Cx} {a b c : Expr} {ta tb tc : TE} {pos : Pos}
theorem fin_bl {pins : List (Addr × Obj)} {σ : St} {H : Hp} {s : Shared} {Q : VK} {k k' : Bool} (I : Inv X pins σ H s) (q : Q (.bl k) H) (e : k = k') : EP X pins σ Q (.bool k') s := by
  subst e
  exact ⟨.bl k, H, I, rfl, q⟩
theorem op_eq : OpR X (compareOp .Eq) rEq := by
  intro pins s σ H x y v u Q I rx ry h
  obtain ⟨hs, q⟩ := h
  cases x with
  | non =>
    cases rx
    cases y with
    | non => cases ry; exact PySem.EqNone.eq_none_none (fin_bl I q (by simp))
    | bl j => cases ry; exact PySem.EqNone.eq_none_bool (fin_bl I q (by simp))
    | int j => obtain ⟨t', rfl⟩ := ry; exact PySem.EqNone.eq_none_int (fin_bl I q (by simp))
    | str j => obtain ⟨t', rfl⟩ := ry; exact PySem.EqNone.eq_none_str (fin_bl I q (by simp))
    | _ => exact absurd (show false = true from hs) Bool.false_ne_true
  | bl i =>
    cases rx
    cases y with
    | non => cases ry; exact PySem.EqNone.eq_bool_none (fin_bl I q (by simp))
    | bl j => cases ry; exact eq_bool (fin_bl I q dec_bl)
    | str j => obtain ⟨t', rfl⟩ := ry; exact PySem.EqMixed.eq_bool_str (fin_bl I q (by simp))
    | _ => exact absurd (show false = true from hs) Bool.false_ne_true
  | int i =>
    obtain ⟨t, rfl⟩ := rx
    cases y with
    | non => cases ry; exact PySem.EqNone.eq_int_none (fin_bl I q (by simp))
    | int j => obtain ⟨t', rfl⟩ := ry; exact eq_int (fin_bl I q dec_int)
    | str j => obtain ⟨t', rfl⟩ := ry; exact PySem.EqMixed.eq_int_str (fin_bl I q (by simp))
    | _ => exact absurd (show false = true from hs) Bool.false_ne_true
  | str i =>
    obtain ⟨t, rfl⟩ := rx
    cases y with
    | non => cases ry; exact PySem.EqNone.eq_str_none (fin_bl I q (by simp))
    | bl j => cases ry; exact PySem.EqMixed.eq_str_bool (fin_bl I q (by simp))
    | int j => obtain ⟨t', rfl⟩ := ry; exact PySem.EqMixed.eq_str_int (fin_bl I q (by simp))
    | str j => obtain ⟨t', rfl⟩ := ry; exact eq_str (fin_bl I q dec_str)
    | _ => exact absurd (show false = true from hs) Bool.false_ne_true
  | byt i =>
    obtain ⟨t, rfl⟩ := rx
    cases y with
    | byt j => obtain ⟨t', rfl⟩ := ry; exact PySem.W.eq_bytes (fin_bl I q dec_byt)
    | _ => exact absurd (show false = true from hs) Bool.false_ne_true
  | _ => cases y <;> exact absurd (show false = true from hs) Bool.false_ne_true
theorem op_ne : OpR X (compareOp .NotEq) rNe := by
  intro pins s σ H x y v u Q I rx ry h
  obtain ⟨hs, q⟩ := h
  cases x with
  | non =>
    cases rx
    cases y with
    | non => cases ry; exact PySem.EqNone.ne_none_none (fin_bl I q (by simp))
    | bl j => cases ry; exact PySem.EqNone.ne_none_bool (fin_bl I q (by simp))
    | int j => obtain ⟨t', rfl⟩ := ry; exact PySem.EqNone.ne_none_int (fin_bl I q (by simp))
    | str j => obtain ⟨t', rfl⟩ := ry; exact PySem.EqNone.ne_none_str (fin_bl I q (by simp))
    | _ => exact absurd (show false = true from hs) Bool.false_ne_true
  | bl i =>
    cases rx
    cases y with
    | non => cases ry; exact PySem.EqNone.ne_bool_none (fin_bl I q (by simp))
    | bl j => cases ry; exact ne_bool (fin_bl I q (congrArg not dec_bl))
    | str j => obtain ⟨t', rfl⟩ := ry; exact PySem.EqMixed.ne_bool_str (fin_bl I q (by simp))
    | _ => exact absurd (show false = true from hs) Bool.false_ne_true
  | int i =>
    obtain ⟨t, rfl⟩ := rx
    cases y with
    | non => cases ry; exact PySem.EqNone.ne_int_none (fin_bl I q (by simp))
    | int j => obtain ⟨t', rfl⟩ := ry; exact ne_int (fin_bl I q (congrArg not dec_int))
    | str j => obtain ⟨t', rfl⟩ := ry; exact PySem.EqMixed.ne_int_str (fin_bl I q (by simp))
    | _ => exact absurd (show false = true from hs) Bool.false_ne_true
  | str i =>
    obtain ⟨t, rfl⟩ := rx
    cases y with
    | non => cases ry; exact PySem.EqNone.ne_str_none (fin_bl I q (by simp))
    | bl j => cases ry; exact PySem.EqMixed.ne_str_bool (fin_bl I q (by simp))
    | int j => obtain ⟨t', rfl⟩ := ry; exact PySem.EqMixed.ne_str_int (fin_bl I q (by simp))
    | str j => obtain ⟨t', rfl⟩ := ry; exact ne_str (fin_bl I q (congrArg not dec_str))
    | _ => exact absurd (show false = true from hs) Bool.false_ne_true
  | byt i =>
    obtain ⟨t, rfl⟩ := rx
    cases y with
    | byt j => obtain ⟨t', rfl⟩ := ry; exact PySem.W.ne_bytes (fin_bl I q (congrArg not dec_byt))
    | _ => exact absurd (show false = true from hs) Bool.false_ne_true
  | _ => cases y <;> exact absurd (show false = true from hs) Bool.false_ne_true

theorem op_lt : OpR X (compareOp .Lt) (rI0 fun i j => .bl (decide (i < j))) := opB0 fun _ _ _ _ _ _ _ q => lt_int q
theorem op_le : OpR X (compareOp .LtE) (rI0 fun i j => .bl (decide (i ≤ j))) := opB0 fun _ _ _ _ _ _ _ q => le_int q
theorem op_gt : OpR X (compareOp .Gt) (rI0 fun i j => .bl (decide (j < i))) := opB0 fun _ _ _ _ _ _ _ q => gt_int q
theorem op_ge : OpR X (compareOp .GtE) (rI0 fun i j => .bl (decide (j ≤ i))) := opB0 fun _ _ _ _ _ _ _ q => ge_int q
theorem op_notN : OpR X (compareOp .IsNot) (fun x y H Q => y = .non ∧ Q (.bl (!decide (x = .non))) H) := by
  intro pins s σ H x y v u Q I rx ry h
  obtain ⟨rfl, q⟩ := h
  cases ry
  refine isnot_none_gen (fin_bl I q ?_)
  cases x <;> first
    | (cases rx; rfl)
    | (obtain ⟨t, rfl⟩ := rx; rfl)

/-- two rules for one operation: by cases -/
theorem OpR.or {f : Value → Value → Sem Value} {r r' : R2} (h : OpR X f r) (h' : OpR X f r') : OpR X f (fun x y H Q => r x y H Q ∨ r' x y H Q) := by
  intro pins s σ H x y v u Q I rx ry q
  rcases q with q | q
  · exact h pins s σ H x y v u Q I rx ry q
  · exact h' pins s σ H x y v u Q I rx ry q

theorem nomark (b : Expr) {op : CmpOp} (h : op ≠ .In := by decide) (h2 : op ≠ .NotIn := by decide) : behindInMarks op b = false := by
  have e1 : (op == CmpOp.In) = false := by cases op <;> first | rfl | exact absurd rfl h
  have e2 : (op == CmpOp.NotIn) = false := by cases op <;> first | rfl | exact absurd rfl h2
  cases b <;> simp [behindInMarks, e1, e2]
/-- a comparison as a value; hm: nomark b, or (for in, not in) by with_unfolding_all rfl -/
theorem pe_cmpR {op : CmpOp} {r : R2} (ho : OpR X (compareOp op) r) (ha : PE X a ta) (hb : PE X b tb) (hm : behindInMarks op b = false) : PE X (.Compare a [op] [b] pos) (tOp r ta tb) := by
  intro pins s σ H Q I h
  exact wpAny_Compare1 (binT ha hb I h fun v u s2 x y H2 I2 rx ry q => ho pins s2 σ H2 x y v u Q I2 rx ry q) hm
/-- a reading of a value as a test -/
def tTest (t : TE) : TT := fun σ H Q => t σ H fun x H' => ∃ k, x = .bl k ∧ Q k H'
theorem pt_cmpR {op : CmpOp} {r : R2} (ho : OpR X (compareOp op) r) (ha : PE X a ta) (hb : PE X b tb) (hm : behindInMarks op b = false) : PT X (.Compare a [op] [b] pos) (tTest (tOp r ta tb)) := by
  intro pins s σ H Q I h
  refine wpAny_isTrue_Compare1 (thn (ha pins s σ H _ I h) fun v s1 ⟨x, H1, I1, r1, q1⟩ => thn (hb pins s1 σ H1 _ I1 q1) fun u s2 ⟨y, H2, I2, r2, q2⟩ =>
    thn (ho pins s2 σ H2 x y v u _ I2 r1 r2 q2) fun c s3 ⟨z, H3, I3, r3, k, e, q3⟩ => ?_) hm
  subst e
  cases r3
  exact wpAny_truthy_bool ⟨H3, I3, q3⟩
/-- a op1 b op2 c -/
def tChain (r r' : R2) (ta tb tc : TE) : TE := fun σ H Q => ta σ H fun x H1 => tb σ H1 fun y H2 => r x y H2 fun z H3 => ∃ k, z = .bl k ∧
  (if k = true then tc σ H3 fun w' H4 => r' y w' H4 Q else Q (.bl false) H3)
theorem pe_chain {op op' : CmpOp} {r r' : R2} (ho : OpR X (compareOp op) r) (ho' : OpR X (compareOp op') r') (ha : PE X a ta) (hb : PE X b tb) (hc : PE X c tc)
    (hm : lastMarks [op, op'] [b, c] = false := by with_unfolding_all rfl) : PE X (.Compare a [op, op'] [b, c] pos) (tChain r r' ta tb tc) := by
  intro pins s σ H Q I h
  refine Compare_chain (thn (ha pins s σ H _ I h) fun v s1 ⟨x, H1, I1, r1, q1⟩ => chain_link (thn (hb pins s1 σ H1 _ I1 q1) fun u s2 ⟨y, H2, I2, r2, q2⟩ =>
    thn (ho pins s2 σ H2 x y v u _ I2 r1 r2 q2) fun d s3 ⟨z, H3, I3, r3, k, e, q3⟩ => ?_)) hm
  subst e
  cases r3
  refine wpAny_truthy_bool ?_
  cases k with
  | false => exact ite_ff ⟨.bl false, H3, I3, rfl, q3⟩
  | true => exact ite_tt (chain_last (thn (hc pins s3 σ H3 _ I3 q3) fun w' s4 ⟨z', H4, I4, r4, q4⟩ => ho' pins s4 σ H4 y z' u w' Q I4 r2 r4 q4))
theorem pt_chain {op op' : CmpOp} {r r' : R2} (ho : OpR X (compareOp op) r) (ho' : OpR X (compareOp op') r') (ha : PE X a ta) (hb : PE X b tb) (hc : PE X c tc)
    (hm : lastMarks [op, op'] [b, c] = false := by with_unfolding_all rfl) : PT X (.Compare a [op, op'] [b, c] pos) (tTest (tChain r r' ta tb tc)) := by
  intro pins s σ H Q I h
  refine isTrue_chain (thn (ha pins s σ H _ I h) fun v s1 ⟨x, H1, I1, r1, q1⟩ => test_link (thn (hb pins s1 σ H1 _ I1 q1) fun u s2 ⟨y, H2, I2, r2, q2⟩ =>
    thn (ho pins s2 σ H2 x y v u _ I2 r1 r2 q2) fun d s3 ⟨z, H3, I3, r3, k, e, q3⟩ => ?_)) hm
  subst e
  cases r3
  refine wpAny_truthy_bool ?_
  cases k with
  | false =>
    obtain ⟨k', e', q'⟩ := q3
    cases e'
    exact ite_ff ⟨H3, I3, q'⟩
  | true =>
    refine ite_tt (test_last (thn (hc pins s3 σ H3 _ I3 q3) fun w' s4 ⟨z', H4, I4, r4, q4⟩ => thn (ho' pins s4 σ H4 y z' u w' _ I4 r2 r4 q4) fun d' s5 ⟨z2, H5, I5, r5, k2, e2, q5⟩ => ?_))
    subst e2
    cases r5
    exact wpAny_truthy_bool ⟨H5, I5, q5⟩

/-! ### truth -/
theorem line63 : (sizeLine : Nat) < 2 ^ 63 := by rw [sizeLine_eq]; decide
/-! ### strs and bytes -/
theorem op_add_str : OpR X (binaryOp .Add) (fun x y H Q => ∃ i j, x = .str i ∧ y = .str j ∧ i.length + j.length ≤ sizeLine ∧ Q (.str (i ++ j)) H) := by
  intro pins s σ H x y v u Q I rx ry h
  obtain ⟨i, j, rfl, rfl, hz, q⟩ := h
  obtain ⟨t, rfl⟩ := rx
  obtain ⟨t', rfl⟩ := ry
  exact add_str (fun t' tk => ⟨.str (i ++ j), H, I.tok _, ⟨_, rfl⟩, q⟩) hz
/-! ### scalar builtins, by CallR -/
theorem vals1 {x : V} {us : List Value} (r : Vals [x] us) : ∃ u, us = [u] ∧ RelV x u := by
  cases r with
  | cons r1 r2 => cases r2; exact ⟨_, rfl, r1⟩
theorem vals2 {x y : V} {us : List Value} (r : Vals [x, y] us) : ∃ u w', us = [u, w'] ∧ RelV x u ∧ RelV y w' := by
  cases r with
  | cons r1 r2 =>
    cases r2 with
    | cons r3 r4 => cases r4; exact ⟨_, _, rfl, r1, r3⟩
end
end L2

namespace L2
open PySem PySem.Spec PyProof.Rows

/-! ### an instance, its attributes a map -/
structure ObjM (h : Heap) (x dx C : Addr) (mA : Str → Option Value) : Prop where
  obj : h.get? x = some (PySem.W.instObj C dx)
  ns : h.Ns1 dx mA
  ne : dx ≠ x

theorem lookIn_ns {h : Heap} {dx : Addr} {mA : Str → Option Value} (n : h.Ns1 dx mA) : ∃ od, h.get? dx = some od ∧ ∀ name, PySem.W.lookIn name od = some (mA name) := by
  obtain ⟨o, es, ep, ho, hd, hk, _, hm⟩ := n
  refine ⟨o, ho, fun name => ?_⟩
  have e := hm name
  unfold nsFind findBy at e
  rw [← Array.find?_toList] at e
  unfold PySem.W.lookIn
  rw [hd]
  dsimp only
  split
  · rename_i y q
    rw [q] at e
    exact congrArg some e
  · rename_i q
    rw [q] at e
    have a : es.toList.any (·.refKey) = false := by
      rw [List.any_eq_false]
      intro y hy
      obtain ⟨z, t, hkey⟩ := hk y (Array.mem_toList_iff.mp hy)
      simp [DictEntry.refKey, hkey]
    have a' : ¬ es.toList.any (·.refKey) = true := by rw [a]; exact Bool.false_ne_true
    rw [if_neg a']
    exact congrArg some e

theorem ObjM.look {h : Heap} {x dx C : Addr} {mA : Str → Option Value} (I : ObjM h x dx C mA) : ∃ od, PySem.W.InstAt h x (PySem.W.instObj C dx) C (some od) ∧ ∀ name, PySem.W.lookIn name od = some (mA name) :=
  let ⟨od, ho, hl⟩ := lookIn_ns I.ns
  ⟨od, ⟨I.obj, rfl, rfl, ho⟩, hl⟩

section
variable {prog : Program} {w : World} {A : Around} {E : Value → Shared → Prop} {s : Shared} {K : PySem.W.Frag} {x dx C f : Addr} {mA : Str → Option Value} {name : Str} {v : Value}

theorem get_map {expr : Bool} {Q : Value → Shared → Prop} (X : K.In s.heap) (I : ObjM s.heap x dx C mA) (hg : PySem.W.plainGet K C name = true) (hh : PySem.W.hasDictIn K C = true)
    (ha : PySem.W.findIn K (.ref C) name = some none) (hv : mA name = some v) (hv' : PySem.W.handedIn v = true) (h : Q v { s with toks := s.toks + 1 }) :
    wpAny (model prog w) A (getAttr (.ref x) name expr) Q E s := by
  obtain ⟨od, J, hl⟩ := I.look
  exact PySem.W.get_value X J (PySem.W.plainGet_of hg).1 (PySem.W.findObj_own hh ha rfl (by rw [hl, hv])) hv' h

theorem get_meth {pl : Sem Bool} {Q : Value × List Value → Shared → Prop} (X : K.In s.heap) (I : ObjM s.heap x dx C mA) (hg : PySem.W.plainGet K C name = true)
    (hf : PySem.W.findIn K (.ref C) name = some (some (.ref f))) (ht : PySem.W.isFn K (.ref f) = true) (hv : mA name = none) (h : Q (.ref f, [.ref x]) s) :
    wpAny (model prog w) A (getMethod (.ref x) name pl) Q E s := by
  obtain ⟨od, J, hl⟩ := I.look
  exact PySem.W.method_fn X J (PySem.W.plainGet_of hg).1 (PySem.W.plainGet_of hg).2 hf (beq_iff_eq.mp ht) (by show (PySem.W.lookIn name od).map (·.isSome) = some false; rw [hl, hv]; rfl) h

theorem set_map {ns : List Str} {Q : Unit → Shared → Prop} (X : K.In s.heap) (I : ObjM s.heap x dx C mA)
    (hs : PySem.W.findIn K (.ref C) "__setattr__" = some (some (.builtin "object.__setattr__"))) (hp : PySem.W.plainOver K C = true) (ht : PySem.W.takerIn K C name = some none) (hh : PySem.W.hasDictIn K C = true)
    (hw : PySem.Within mA ns) (hsz : ns.length ≤ sizeLine)
    (h : ∀ h', ObjM h' x dx C (fun y => if y = name then some v else mA y) → Heap.SameBut dx s.heap h' → Q () { s with heap := h', toks := s.toks + 2 }) :
    wpAny (model prog w) A (setAttr (.ref x) name v) Q E s := by
  obtain ⟨od, J, hl⟩ := I.look
  refine PySem.W.set_plain X J hs (PySem.W.osa_open (s := { s with toks := s.toks + 1 }) (r := none) X J hp ht fun b => ?_)
  obtain ⟨cd, hc, hd'⟩ := PySem.W.any_some hh
  have hx : s.heap.get? x = some ⟨.ref C, some dx, .plain, #[]⟩ := I.obj
  refine wpAny_bind (wpAny_pure (wpAny_bind (wpAny_bind (wpAny_loadPart hx (wpAny_bind (PySem.W.Looks.here (s := { s with toks := s.toks + 1 }) (PySem.W.looks_clsIn X hc) ?_))))))
  rw [hd']
  refine wpAny_pure (a := some dx) (wpAny_bind (wpAny_pure (wpAny_bind ?_)))
  refine wpAny_nsSet1 (s := { s with toks := s.toks + 1 }) I.ns fun h' hn2 hs2 => ?_
  obtain ⟨oD, esD, epD, hoD, hdD, hcD⟩ := hn2.count (PySem.Within.cons name v hw)
  refine wpAny_bind (wpAny_lookBehind hoD (by rw [hdD]; exact pastItsLine_dict (Nat.le_trans hcD (by rw [List.length_cons]; omega))) ?_)
  exact wpAny_pure (h _ ⟨(hs2.2 _ (Ne.symm I.ne)).trans I.obj, hn2, I.ne⟩ hs2)

/-- C(..): the dict at the heap's end, the instance behind it; then its __init__ -/
theorem make_map {R : Result → Shared → Prop} {vs : List Value} {kw : List (Str × Value)} (X : K.In s.heap) (hm : PySem.W.makesIn K C = true)
    (hi : PySem.W.findIn K (.ref C) "__init__" = some (some (.ref f))) (hf : PySem.W.typeIn K (.ref f) = some (.type "function"))
    (h : codeAny (model prog w) (A.under (.builtin "type.__call__" ⟨.ref C :: vs, kw⟩)) (.call (.ref f) ⟨.ref (s.heap.objs.size + 1) :: vs, kw⟩) (PySem.W.InitBack (s.heap.objs.size + 1) R)
      { s with heap := (s.heap.push PySem.W.emptyDict).push (PySem.W.instObj C s.heap.objs.size) }) :
    codeAny (model prog w) A (.call (.ref C) ⟨vs, kw⟩) R s := by
  obtain ⟨hh, g, d, t, os⟩ := s
  exact PySem.W.make_core (PySem.W.makes_of X hm) (PySem.W.looks_findIn X hi) (fun self => PySem.W.bind_fn X self hf) (.inl rfl) h
end

/-! ### the attributes as a list of pairs -/
def putF (f : Str) (v : V) : List (Str × V) → List (Str × V)
  | [] => [(f, v)]
  | (g, x) :: r => if g = f then (g, v) :: r else (g, x) :: putF f v r
theorem lookup_putF (f g : Str) (v : V) : ∀ fs : List (Str × V), (putF f v fs).lookup g = if g = f then some v else fs.lookup g
  | [] => by
    show List.lookup g [(f, v)] = _
    by_cases h : g = f
    · have hb : (g == f) = true := beq_iff_eq.mpr h
      simp only [List.lookup, hb, if_pos h]
    · have hb : (g == f) = false := beq_eq_false_iff_ne.mpr h
      simp only [List.lookup, hb, if_neg h]
  | (k, x) :: r => by
    have ih := lookup_putF f g v r
    rw [show putF f v ((k, x) :: r) = (if k = f then (k, v) :: r else (k, x) :: putF f v r) from rfl]
    by_cases hk : k = f
    · rw [if_pos hk]
      by_cases h : g = k
      · have hb : (g == k) = true := beq_iff_eq.mpr h
        simp only [List.lookup, hb, if_pos (h.trans hk)]
      · have hb : (g == k) = false := beq_eq_false_iff_ne.mpr h
        simp only [List.lookup, hb, if_neg (fun e : g = f => h (e.trans hk.symm))]
    · rw [if_neg hk]
      by_cases h : g = k
      · have hb : (g == k) = true := beq_iff_eq.mpr h
        simp only [List.lookup, hb, if_neg (fun e : g = f => hk (h.symm.trans e))]
      · have hb : (g == k) = false := beq_eq_false_iff_ne.mpr h
        simp only [List.lookup, hb]
        exact ih
theorem keys_putF (f : Str) (v : V) : ∀ fs : List (Str × V), f ∈ (putF f v fs).map (·.1) ∧ ∀ g, g ∈ fs.map (·.1) → g ∈ (putF f v fs).map (·.1)
  | [] => ⟨by simp [putF], fun g h => by simp at h⟩
  | (k, x) :: r => by
    obtain ⟨i1, i2⟩ := keys_putF f v r
    rw [show putF f v ((k, x) :: r) = (if k = f then (k, v) :: r else (k, x) :: putF f v r) from rfl]
    by_cases hk : k = f
    · rw [if_pos hk]
      subst hk
      exact ⟨by simp, fun g h => by simpa using h⟩
    · rw [if_neg hk]
      refine ⟨?_, fun g h => ?_⟩
      · rw [List.map_cons]
        exact List.mem_cons_of_mem _ i1
      · rw [List.map_cons] at h ⊢
        rcases List.mem_cons.mp h with e | e
        · exact List.mem_cons.mpr (.inl e)
        · exact List.mem_cons_of_mem _ (i2 g e)
theorem length_putF (f : Str) (v : V) : ∀ fs : List (Str × V), (putF f v fs).length ≤ fs.length + 1
  | [] => by simp [putF]
  | (k, x) :: r => by
    have ih := length_putF f v r
    rw [show putF f v ((k, x) :: r) = (if k = f then (k, v) :: r else (k, x) :: putF f v r) from rfl]
    by_cases hk : k = f
    · rw [if_pos hk, List.length_cons, List.length_cons]; omega
    · rw [if_neg hk, List.length_cons, List.length_cons]; omega

theorem RelO.some_of {v : V} {o : Option Value} (r : RelO (some v) o) : ∃ u, o = some u ∧ RelV v u := by
  cases o with
  | none => exact (show False from r).elim
  | some u => exact ⟨u, rfl, r⟩
theorem RelO.none_of {o : Option Value} (r : RelO none o) : o = none := by
  cases o with
  | none => rfl
  | some u => exact (show False from r).elim
theorem handed_of {v : V} {u : Value} (r : RelV v u) : PySem.W.handedIn u = true := by
  cases v with
  | non => cases (show u = Value.none from r); rfl
  | bl b => cases (show u = Value.bool b from r); rfl
  | int i => obtain ⟨t, e⟩ := (show ∃ t, u = Value.int i t from r); cases e; rfl
  | str x => obtain ⟨t, e⟩ := (show ∃ t, u = Value.str x t from r); cases e; rfl
  | byt b => obtain ⟨t, e⟩ := (show ∃ t, u = Value.bytes b t from r); cases e; rfl
  | flt b => obtain ⟨t, e⟩ := (show ∃ t, u = Value.float b t from r); cases e; rfl
  | ref a => cases (show u = Value.ref a from r); rfl
  | ty n => cases (show u = Value.type n from r); rfl

section
variable {P : Program} {w : World} {H H' : Hp} {h h' : Heap} {a C dx : Addr} {fs fs' : List (Str × V)}
theorem ins_get (hok : HOk P w H h) (e : H a = some (.ins C dx fs)) : ∃ mA, ObjM h a dx C mA ∧ (∀ f, RelO (fs.lookup f) (mA f)) ∧ PySem.Within mA (fs.map (·.1)) ∧ fs.length ≤ 1000 ∧ H dx = some (.own a) := by
  obtain ⟨d, z, ne, ob, mA, n, r, q⟩ := (show ObjOk P w H h a (.ins C dx fs) from hok a _ e)
  exact ⟨mA, ⟨ob, n, ne⟩, r, q, z, d⟩
end

/-! ### what of the text a class must have -/
structure Cls (K : PySem.W.Frag) (C : Addr) : Prop where
  pg : PySem.W.plainGet K C Str.empty = true
  hd : PySem.W.hasDictIn K C = true
  po : PySem.W.plainOver K C = true
  sa : PySem.W.findIn K (.ref C) "__setattr__" = some (some (.builtin "object.__setattr__"))
theorem Cls.get {K : PySem.W.Frag} {C : Addr} (c : Cls K C) (f : Str) : PySem.W.plainGet K C f = true := c.pg
/-- no class of it has the name -/
def NoAttr (K : PySem.W.Frag) (C : Addr) (f : Str) : Prop := PySem.W.findIn K (.ref C) f = some none
theorem NoAttr.taker {K : PySem.W.Frag} {C : Addr} {f : Str} (n : NoAttr K C f) : PySem.W.takerIn K C f = some none := by
  unfold PySem.W.takerIn
  rw [show PySem.W.findIn K (.ref C) f = some none from n]
  rfl
/-- a method: a plain def of the class or of one above it -/
structure Meth (K : PySem.W.Frag) (C : Addr) (m : Str) (f : Addr) : Prop where
  at_ : PySem.W.findIn K (.ref C) m = some (some (.ref f))
  fn : PySem.W.isFn K (.ref f) = true
  kp : PySem.W.keepIn K (.ref f) = true

section
variable {X : Cx} {pins : List (Addr × Obj)} {σ : St} {H : Hp} {s : Shared} {a C dx : Addr} {fs : List (Str × V)} {f : Str} {v : V} {A : Around} {E : Value → Shared → Prop}

theorem getattr_ok {b : Bool} {Q : Value → Shared → Prop} (I : Inv X pins σ H s) (e : H a = some (.ins C dx fs)) (c : Cls X.K C) (n : NoAttr X.K C f) (l : fs.lookup f = some v)
    (h : ∀ u s', Inv X pins σ H s' → RelV v u → Q u s') : wpAny (model X.prog X.w) A (getAttr (.ref a) f b) Q E s := by
  obtain ⟨mA, O, r, _, _, _⟩ := ins_get I.hok e
  obtain ⟨u, hu, ru⟩ := RelO.some_of (v := v) (o := mA f) (by rw [← l]; exact r f)
  exact get_map I.kIn O (c.get f) c.hd n hu (handed_of ru) (h u _ (I.tok _) ru)

theorem getmeth_ok {m : Str} {g : Addr} {pl : Sem Bool} {Q : Value × List Value → Shared → Prop} (I : Inv X pins σ H s) (e : H a = some (.ins C dx fs)) (c : Cls X.K C) (k : Meth X.K C m g) (l : fs.lookup m = none)
    (h : Q (.ref g, [.ref a]) s) : wpAny (model X.prog X.w) A (getMethod (.ref a) m pl) Q E s := by
  obtain ⟨mA, O, r, _, _, _⟩ := ins_get I.hok e
  have hn : mA m = none := RelO.none_of (by rw [← l]; exact r m)
  exact get_meth I.kIn O (c.get m) k.at_ k.fn hn h

theorem setattr_ok {y : V} {u : Value} {Q : Unit → Shared → Prop} (I : Inv X pins σ H s) (e : H a = some (.ins C dx fs)) (c : Cls X.K C) (n : NoAttr X.K C f) (hl : fs.length < 1000) (ry : RelV y u)
    (h : ∀ s', Inv X pins σ (upd H a (.ins C dx (putF f y fs))) s' → Q () s') : wpAny (model X.prog X.w) A (setAttr (.ref a) f u) Q E s := by
  obtain ⟨mA, O, r, wi, _, ho⟩ := ins_get I.hok e
  have hz : (fs.map (·.1)).length ≤ sizeLine := by rw [List.length_map, sizeLine_eq]; omega
  refine set_map I.kIn O c.sa c.po n.taker c.hd wi hz fun h' O' sb => h _ ?_
  have hd : ∃ o, h'.get? dx = some o := let ⟨o, _, _, e', _⟩ := O'.ns; ⟨o, e'⟩
  refine I.write (x := a) (e := dx) (by rw [e]; exact True.intro) (.inr ho) (fun b q hb z => (sb.2 b hb).trans z) hd ?_
  refine ⟨by rw [upd_ne O.ne]; exact ho, ?_, O.ne, O'.obj, _, O'.ns, fun g => ?_, fun g hg => ?_⟩
  · have := length_putF f y fs; omega
  · show RelO ((putF f y fs).lookup g) (if g = f then some u else mA g)
    rw [lookup_putF]
    by_cases q : g = f
    · rw [if_pos q, if_pos q]; exact ry
    · rw [if_neg q, if_neg q]; exact r g
  · by_cases q : g = f
    · rw [q]; exact (keys_putF f y fs).1
    · refine (keys_putF f y fs).2 g (wi g fun z => hg ?_)
      show (if g = f then some u else mA g) = none
      rw [if_neg q]; exact z

/-- a new instance, tracked, without attributes -/
theorem Inv.made (I : Inv X pins σ H s) : Inv X pins σ (upd (upd H s.heap.objs.size (.own (s.heap.objs.size + 1))) (s.heap.objs.size + 1) (.ins C s.heap.objs.size []))
    { s with heap := (s.heap.push PySem.W.emptyDict).push (PySem.W.instObj C s.heap.objs.size) } := by
  have e1 : (s.heap.push PySem.W.emptyDict).get? s.heap.objs.size = some PySem.W.emptyDict := Heap.get?_push_size s.heap rfl
  have e2 : ((s.heap.push PySem.W.emptyDict).push (PySem.W.instObj C s.heap.objs.size)).get? (s.heap.objs.size + 1) = some (PySem.W.instObj C s.heap.objs.size) := by
    have := Heap.get?_push_size (s.heap.push PySem.W.emptyDict) (o := PySem.W.instObj C s.heap.objs.size) rfl
    rwa [Heap.size_push] at this
  have e3 : (s.heap.push PySem.W.emptyDict).Ns s.heap.objs.size (fun _ => none) := ⟨PySem.W.emptyDict, #[], _, e1, rfl, (fun e he => absurd he (by simp)), fun _ => rfl⟩
  have I1 := I.laid (a := s.heap.objs.size) (o := .own (s.heap.objs.size + 1)) (h' := s.heap.push PySem.W.emptyDict) (t' := s.toks) (fun b u q => Heap.get?_push_of_some _ q) (Nat.le_refl _) ⟨_, e1⟩
  refine I1.laid (a := s.heap.objs.size + 1) (o := .ins C s.heap.objs.size []) (t' := s.toks) (fun b u q => Heap.get?_push_of_some _ q) (Nat.le_of_eq (Heap.size_push _ _)) ?_
  have ne : s.heap.objs.size ≠ s.heap.objs.size + 1 := Nat.ne_of_lt (Nat.lt_succ_self _)
  refine ⟨by rw [upd_ne ne, upd_same], Nat.zero_le _, ne, e2, fun _ => none, (Heap.Ns1.of_empty e3).at fun o q => Heap.get?_push_of_some _ q, fun _ => True.intro, fun y hy => absurd rfl hy⟩

/-- e.f where nothing but the object is asked: through attributeBase (super) and the last hold -/
theorem attr_of {prog : Program} {w : World} {env : Env} {e : Expr} {f : Str} {pos : Pos} {s : Shared} {Q : Value → Shared → Prop} (hb : attributeBase e f env (eval e env) = eval e env)
    (h : wpAny (model prog w) A (eval e env) (fun o s₁ => wpAny (model prog w) A (getAttr o f true) Q E s₁) E s) : wpAny (model prog w) A (eval (.Attribute e f pos) env) Q E s :=
  Attribute_any_ h (by rw [arm_eval_Attribute, hb])
end

/-! ### readings and rules -/
/-- e.f, an attribute of the instance -/
def tFld (K : PySem.W.Frag) (ta : TE) (f : Str) : TE := fun σ H Q => ta σ H fun x H1 => ∃ a C dx fs v, x = .ref a ∧ H1 a = some (.ins C dx fs) ∧ Cls K C ∧ NoAttr K C f ∧ fs.lookup f = some v ∧ Q v H1
/-- e.f = value -/
def sFld (K : PySem.W.Frag) (ta tv : TE) (f : Str) : TS := fun D σ H => tv σ H fun y H1 => ta σ H1 fun x H2 => ∃ a C dx fs, x = .ref a ∧ H2 a = some (.ins C dx fs) ∧ Cls K C ∧ NoAttr K C f ∧ fs.length < 1000 ∧
  D.nx σ (upd H2 a (.ins C dx (putF f y fs)))
section
variable {X : Cx} {o e value : Expr} {f : Str} {pos pos' tpos : Pos} {ta tv : TE}
theorem pe_fld (he : PE X e ta) (hb : attributeBase e f X.env (eval e X.env) = eval e X.env) : PE X (.Attribute e f pos) (tFld X.K ta f) := by
  intro pins s σ H Q I h
  refine attr_of hb (thn (he pins s σ H _ I h) fun u s1 ⟨x, H1, I1, rx, a, C, dx, fs, v, ex, ea, c, n, l, q⟩ => ?_)
  subst ex
  obtain rfl : u = Value.ref a := rx
  exact getattr_ok I1 ea c n l fun u' s2 I2 ru => ⟨v, H1, I2, ru, q⟩
theorem ps_fld (ha : PE X o ta) (hv : PE X value tv) (hs : swapsWith value (some (.Attribute o f pos')) pos.line X.env = pure false) : PS X (.Assign [.Attribute o f pos'] value pos) (sFld X.K ta tv f) := by
  intro pins s σ H D I h
  refine plainObj_wpAny_Assign_Attribute (thn (hv pins s σ H _ I h) fun u s1 ⟨y, H1, I1, ry, q⟩ => thn (ha pins s1 σ H1 _ I1 q) fun ov s2 ⟨x, H2, I2, rx, a, C, dx, fs, ex, ea, c, n, l, q2⟩ => ?_) hs
  subst ex
  obtain rfl : ov = Value.ref a := rx
  exact setattr_ok I2 ea c n l ry fun s3 I3 => ⟨σ, _, I3, q2⟩
end

/-! ### isinstance -/
section
variable {X : Cx} {pins : List (Addr × Obj)} {σ : St} {H : Hp} {s : Shared} {A : Around} {E : Value → Shared → Prop} {Q : Value → Shared → Prop} {c : Value} {b : Bool}
/-- the type of a value, as the fragment's deciders take it; for an instance its class -/
inductive TyOf (K : PySem.W.Frag) (H : Hp) : V → Value → Prop where
  | non : TyOf K H .non (.type "NoneType")
  | bl (x : Bool) : TyOf K H (.bl x) (.type "bool")
  | int (i : Int) : TyOf K H (.int i) (.type "int")
  | str (x : Str) : TyOf K H (.str x) (.type "str")
  | flt (x : UInt64) : TyOf K H (.flt x) (.type "float")
  | lst {a : Addr} {xs : List V} (e : H a = some (.lst xs)) : TyOf K H (.ref a) (.type "list")
  | frz {a : Addr} {o : Obj} {xs : List V} (e : H a = some (.frz o (.lst xs))) : TyOf K H (.ref a) (.type "list")
  | tup {a : Addr} {xs : List V} (e : H a = some (.tup xs)) : TyOf K H (.ref a) (.type "tuple")
  | dK {a : Addr} {kvs : List (Key × V)} (e : H a = some (.dK kvs)) : TyOf K H (.ref a) (.type "dict")
  | dT {a : Addr} {kvs : List (List Key × V)} (e : H a = some (.dT kvs)) : TyOf K H (.ref a) (.type "dict")
  | ins {a C dx : Addr} {fs : List (Str × V)} (e : H a = some (.ins C dx fs)) (cl : Cls K C) (ha : PySem.W.findIn K (.ref C) "__class__" = some (some (.builtin "object.__class__")))
      (hn : PySem.W.specialIn K (.builtin "object.__class__") "__get__" = some (some (.builtin "getset_descriptor.__get__"))) (htk : PySem.W.takesIn K (.builtin "object.__class__") = some true)
      (hm : PySem.W.mroIn K C (.type "object") = some true) : TyOf K H (.ref a) (.ref C)
/-- isinstance(x, c) for one class c, a built-in or an own one: kitOne's answer -/
theorem isinst_ok {x : V} {u t : Value} (I : Inv X pins σ H s) (rx : RelV x u) (ty : TyOf X.K H x t) (e : PySem.W.kitOne X.K t c = some b) (h : ∀ tk, Q (.bool b) { s with toks := tk }) :
    wpAny (model X.prog X.w) A (call (.builtin "isinstance") [u, c]) Q E s := by
  cases ty with
  | non => cases (show u = Value.none from rx); exact PySem.W.kia_one PySem.W.kitx_none I.kIn True.intro e (fun z => nomatch z) h
  | bl y => cases (show u = Value.bool y from rx); exact PySem.W.kia_one PySem.W.kitx_bool I.kIn True.intro e (fun z => nomatch z) h
  | int i => obtain ⟨t, q⟩ := (show ∃ t, u = Value.int i t from rx); cases q; exact PySem.W.kia_one PySem.W.kitx_int I.kIn True.intro e (fun z => nomatch z) h
  | str y => obtain ⟨t, q⟩ := (show ∃ t, u = Value.str y t from rx); cases q; exact PySem.W.kia_one PySem.W.kitx_str I.kIn True.intro e (fun z => nomatch z) h
  | flt y => obtain ⟨t, q⟩ := (show ∃ t, u = Value.float y t from rx); cases q; exact PySem.W.kia_one PySem.W.kitx_float I.kIn True.intro e (fun z => nomatch z) h
  | @lst a xs ea =>
    cases (show u = Value.ref a from rx)
    obtain ⟨_, _, n, _, h1⟩ := (show ObjOk X.prog X.w H s.heap a (.lst xs) from I.hok a _ ea)
    exact PySem.W.kia_one PySem.W.kitx_list I.kIn ⟨_, h1, rfl⟩ e (fun z => nomatch z) h
  | @frz a ob xs ea =>
    cases (show u = Value.ref a from rx)
    obtain ⟨_, _, _, n, _, h1⟩ := (show ObjOk X.prog X.w H s.heap a (.frz ob (.lst xs)) from I.hok a _ ea)
    exact PySem.W.kia_one PySem.W.kitx_list I.kIn ⟨_, h1, rfl⟩ e (fun z => nomatch z) h
  | @tup a xs ea =>
    cases (show u = Value.ref a from rx)
    obtain ⟨_, _, _, p⟩ := (show ObjOk X.prog X.w H s.heap a (.tup xs) from I.hok a _ ea)
    obtain ⟨o, h1, h2, _⟩ := p
    exact PySem.W.kia_one PySem.W.kitx_tuple I.kIn ⟨o, h1, h2⟩ e (fun z => nomatch z) h
  | @dK a kvs ea =>
    cases (show u = Value.ref a from rx)
    obtain ⟨_, _, vs, _, p⟩ := (show ObjOk X.prog X.w H s.heap a (.dK kvs) from I.hok a _ ea)
    obtain ⟨o, es, ep, h1, h2, _⟩ := p
    exact PySem.W.kia_one PySem.W.kitx_dict I.kIn ⟨o, h1, h2.1⟩ e (fun z => nomatch z) h
  | @dT a kvs ea =>
    cases (show u = Value.ref a from rx)
    obtain ⟨_, _, xs, _, o, es, ep, h1, h2, _⟩ := (show ObjOk X.prog X.w H s.heap a (.dT kvs) from I.hok a _ ea)
    exact PySem.W.kia_one PySem.W.kitx_dict I.kIn ⟨o, h1, h2.1⟩ e (fun z => nomatch z) h
  | @ins a C dx fs ea cl ha hn htk hm =>
    cases (show u = Value.ref a from rx)
    obtain ⟨mA, O, _⟩ := ins_get I.hok ea
    obtain ⟨od, J, _⟩ := O.look
    exact PySem.W.kia_one (PySem.W.kitx_own (cl.get _) cl.hd ha hn htk hm) I.kIn J e (fun z => nomatch z) h
end
end L2

namespace L2
open PySem PySem.Spec PyProof.Rows

/-! ### room -/
structure Room (k : Nat) (A : Around) : Prop where
  hd : A.handled = none
  dp : A.depth + 3 * k + 5 < recursionLimit
  un : A.units + 16 * k + 200 < cLine
theorem Room.mono {j k : Nat} {A : Around} (r : Room k A) (h : j ≤ k) : Room j A := ⟨r.hd, by have := r.dp; omega, by have := r.un; omega⟩
theorem Room.deeper {k : Nat} {A : Around} (r : Room (k + 1) A) (env : Env) : Room k (A.deeper env) :=
  ⟨r.hd, by have := r.dp; show A.depth + 1 + 3 * k + 5 < _; omega, by have := r.un; show A.units + 3 + 16 * k + 200 < _; omega⟩
theorem Room.in1 {k : Nat} {A : Around} (r : Room (k + 1) A) : Room k A.in1 :=
  ⟨r.hd, by have := r.dp; show A.depth + 3 * k + 5 < _; omega, by have := r.un; show A.units + 1 + 16 * k + 200 < _; omega⟩
theorem make_depth {A : Around} {C : Addr} {us : List Value} {kw : List (Str × Value)} : (A.under (.builtin "type.__call__" ⟨.ref C :: us, kw⟩)).depth = A.depth + 1 := by
  first | rfl | simp [Around.under, Code.weight, Code.isCreation, Code.isGuard, Code.isCaller, Code.frames, Code.isFrame, guardIds]
theorem make_units {A : Around} {C : Addr} {us : List Value} {kw : List (Str × Value)} : (A.under (.builtin "type.__call__" ⟨.ref C :: us, kw⟩)).units = A.units + 1 := by
  first | rfl | simp [Around.under, Code.cUnits, Code.frames, Code.isFrame]
theorem Room.make {k : Nat} {A : Around} (r : Room (k + 1) A) (C : Addr) (us : List Value) (kw : List (Str × Value)) : Room k (A.under (.builtin "type.__call__" ⟨.ref C :: us, kw⟩)) :=
  ⟨r.hd, by have := r.dp; rw [make_depth]; omega, by have := r.un; rw [make_units]; omega⟩
theorem Room.depth {k : Nat} {A : Around} (r : Room k A) : A.depth < recursionLimit := by have := r.dp; omega
theorem Room.units {k : Nat} {A : Around} (r : Room k A) : A.units + 64 < cLine := by have := r.un; omega
/-! ### argument lists and displays -/
def tNil : TA := fun _ H Q => Q [] H
def tCons (ta : TE) (tr : TA) : TA := fun σ H Q => ta σ H fun x H1 => tr σ H1 fun xs H2 => Q (x :: xs) H2
section
variable {X : Cx} {e : Expr} {es : List Expr} {te : TE} {t : TA} {pos : Pos}
theorem pa_nil : PA X [] tNil := fun _ _ _ _ H Q I h => Calls.spliced_nil ⟨[], H, I, .nil, h⟩
theorem pa_cons (ha : PE X e te) (hr : PA X es t) (hs : starEach (e :: es) X.env = (false, eval e X.env) :: starEach es X.env := by rfl) : PA X (e :: es) (tCons te t) := by
  intro pos pins s σ H Q I h
  rw [hs]
  show wpAny _ _ (spliced ((false, eval e X.env) :: backTo pos (starEach es X.env))) _ _ s
  refine Calls.spliced_cons (thn (ha pins s σ H _ I h) fun u s1 ⟨x, H1, I1, r1, q1⟩ => ?_)
  exact thn (hr pos pins s1 σ H1 _ I1 q1) fun us s2 ⟨xs, H2, I2, r2, q2⟩ => ⟨x :: xs, H2, I2, .cons r1 r2, q2⟩

/-- a tuple, a list of written items -/
def tTup (t : TA) : TE := fun σ H Q => t σ H fun xs H1 => xs.length ≤ sizeLine ∧ ∀ p, H1 p = none → Q (.ref p) (upd H1 p (.tup xs))
def tLst (t : TA) : TE := fun σ H Q => t σ H fun xs H1 => xs.length ≤ sizeLine ∧ ∀ p, H1 p = none → Q (.ref p) (upd H1 p (.lst xs))
theorem pe_tup {x1} (h : PA X es t) : PE X (.Tuple es x1 pos) (tTup t) := by
  intro pins s σ H Q I hq
  refine wpAny_Tuple_spliced (thn (h pos pins s σ H _ I hq) fun us s1 ⟨xs, H1, I1, r, z, q⟩ => ⟨by rw [← r.length]; exact z, ?_⟩)
  have hf : H1 s1.heap.objs.size = none := I1.hok.fresh (Nat.le_refl _)
  refine ⟨.ref s1.heap.objs.size, upd H1 s1.heap.objs.size (.tup xs), I1.laid (t' := s1.toks) (fun b u e => Heap.get?_push_of_some _ e) (Nat.le_refl _) ?_, rfl, q _ hf⟩
  exact ⟨z, us, r, ⟨_, Heap.get?_push_size _ rfl, rfl, _, rfl⟩⟩
theorem pe_lst (h : PA X es t) : PE X (.List es pos) (tLst t) := by
  intro pins s σ H Q I hq
  refine wpAny_List_spliced (thn (h pos pins s σ H _ I hq) fun us s1 ⟨xs, H1, I1, r, z, q⟩ => ⟨by rw [← r.length]; exact z, ?_⟩)
  have hf : H1 s1.heap.objs.size = none := I1.hok.fresh (Nat.le_refl _)
  refine ⟨.ref s1.heap.objs.size, upd H1 s1.heap.objs.size (.lst xs), I1.laid (t' := s1.toks) (fun b u e => Heap.get?_push_of_some _ e) (Nat.le_refl _) ?_, rfl, q _ hf⟩
  exact ⟨z, us, 0, r, Heap.get?_push_size _ rfl⟩
end

/-! ### what a def promises -/
/-- a def's promise: the bound arguments in the parameters' order, the heap, the wanted end, the wanted exception -/
abbrev Sp := List V → Hp → VK → XK → Prop
/-- how an exception lies behind a call (file 08 gives it): the callers' frames, abstract heap and state ahead of the call, the wish, the exception, the state -/
abbrev CXT := List Env → Hp → Shared → XK → Value → Shared → Prop

/-- the state at a call -/
structure Env0 (P : Program) (w : World) (K : PySem.W.Frag) (mg : Str → Option Value) (base : Heap) (A : Around) (outer : List Env) (s : Shared) (H : Hp) : Prop where
  frames : A.frames = some outer
  mod : Mod K mg base
  bs : ∀ b o, base.get? b = some o → s.heap.get? b = some o ∧ H b = none
  bsz : base.objs.size ≤ s.heap.objs.size
  funs : s.heap.FunFrames base outer
  frf : ∀ b ∈ frs outer, H b = none
  hok : HOk P w H s.heap
  bare : AllBare s.gens
/-- a call's end -/
def CE (outer : List Env) (P : Program) (w : World) (H : Hp) (s : Shared) (Q : VK) (u : Value) (s' : Shared) : Prop :=
  ∃ v H', s'.os = s.os ∧ AllBare s'.gens ∧ Un (frs outer) [] H H' s.heap s'.heap ∧ HOk P w H' s'.heap ∧ RelV v u ∧ Q v H'
def CR (CX : CXT) (outer : List Env) (P : Program) (w : World) (H : Hp) (s : Shared) (Q : VK) (E : XK) (r : Result) (s' : Shared) : Prop :=
  match r with
  | .ok (.ret u) => CE outer P w H s Q u s'
  | .ok _ => False
  | .error e => CX outer H s E e s'
structure FnOk (P : Program) (w : World) (K : PySem.W.Frag) (mg : Str → Option Value) (base : Heap) (CX : CXT) (k : Nat) (f : Addr) (fd : FuncData) (ps : List Str) (sp : Sp) : Prop where
  len : ∀ vs H Q E, sp vs H Q E → vs.length = ps.length
  run : ∀ (A : Around) (outer : List Env) (s : Shared) (H : Hp) (args : Args) (us : List Value) (vs : List V) (Q : VK) (E : XK), Room k A → Env0 P w K mg base A outer s H → BindsTo s fd args (ps.zip us) → Vals vs us → sp vs H Q E →
    codeAny (model P w) A (.call (.ref f) args) (CR CX outer P w H s Q E) s
theorem FnOk.mono {P : Program} {w : World} {K : PySem.W.Frag} {mg : Str → Option Value} {base : Heap} {CX : CXT} {j k : Nat} {f : Addr} {fd : FuncData} {ps : List Str} {sp : Sp} (F : FnOk P w K mg base CX j f fd ps sp) (h : j ≤ k) :
    FnOk P w K mg base CX k f fd ps sp := ⟨F.len, fun A outer s H args us vs Q E hr => F.run A outer s H args us vs Q E (hr.mono h)⟩
/-- a weaker promise -/
theorem FnOk.imp {P : Program} {w : World} {K : PySem.W.Frag} {mg : Str → Option Value} {base : Heap} {CX : CXT} {k : Nat} {f : Addr} {fd : FuncData} {ps : List Str} {sp sp' : Sp} (F : FnOk P w K mg base CX k f fd ps sp)
    (h : ∀ vs H Q E, sp' vs H Q E → sp vs H Q E) : FnOk P w K mg base CX k f fd ps sp' :=
  ⟨fun vs H Q E q => F.len vs H Q E (h _ _ _ _ q), fun A outer s H args us vs Q E hr he hb hv hs => F.run A outer s H args us vs Q E hr he hb hv (h _ _ _ _ hs)⟩

theorem Env0.make {P : Program} {w : World} {K : PySem.W.Frag} {mg : Str → Option Value} {base : Heap} {A : Around} {outer : List Env} {s : Shared} {H : Hp} (e : Env0 P w K mg base A outer s H) (C : Addr) (us : List Value) (kw : List (Str × Value)) :
    Env0 P w K mg base (A.under (.builtin "type.__call__" ⟨.ref C :: us, kw⟩)) outer s H := ⟨by first | exact e.frames | (simpa [Around.under, Code.envs, Code.isFrame, pushEnvs] using e.frames), e.mod, e.bs, e.bsz, e.funs, e.frf, e.hok, e.bare⟩
theorem Env0.in1 {P : Program} {w : World} {K : PySem.W.Frag} {mg : Str → Option Value} {base : Heap} {A : Around} {outer : List Env} {s : Shared} {H : Hp} (e : Env0 P w K mg base A outer s H) :
    Env0 P w K mg base A.in1 outer s H := ⟨e.frames, e.mod, e.bs, e.bsz, e.funs, e.frf, e.hok, e.bare⟩

section
variable {X : Cx} {pins : List (Addr × Obj)} {σ : St} {H : Hp} {s s' : Shared}
/-- from a body: what a callee wants -/
theorem Inv.env0 (I : Inv X pins σ H s) : Env0 X.prog X.w X.K X.mg X.base X.A X.stack s H :=
  ⟨I.ok.frames, I.ok.mod, I.bs, Nat.le_trans I.ok.bsz I.sz, I.stack, I.stkFree, I.hok, I.bare⟩
/-- behind a call -/
theorem Inv.after {Q : VK} {u : Value} (I : Inv X pins σ H s) (h : CE X.stack X.prog X.w H s Q u s') : EP X pins σ Q u s' := by
  obtain ⟨v, H', os, bare, un, hok, r, q⟩ := h
  obtain ⟨hh, g, d, t, os'⟩ := s'
  obtain rfl : os' = s.os := os
  exact ⟨v, H', I.call (h' := hh) (g' := g) (d' := d) (t' := t) (ch := []) un hok bare (fun b z => absurd z (by simp)), r, q⟩
end

/-! ### calls -/
/-- f(..): the written arguments, then the defaults dvs; E: what is wanted of an exception -/
def tCall (sp : Sp) (dvs : List V) (E : XK) (t : TA) : TE := fun σ H Q => t σ H fun vs H1 => sp (vs ++ dvs) H1 Q E
/-- o.m(..) of an instance of the class at C -/
def tMeth (C : Addr) (m : Str) (sp : Sp) (dvs : List V) (E : XK) (ta : TE) (t : TA) : TE := fun σ H Q => ta σ H fun x H1 => ∃ a dx fs, x = .ref a ∧ H1 a = some (.ins C dx fs) ∧ fs.lookup m = none ∧
  t σ H1 fun vs H2 => sp (x :: (vs ++ dvs)) H2 Q E
/-- C(..): a new instance and its dict, then __init__ -/
def tMake (C : Addr) (sp : Sp) (dvs : List V) (E : XK) (t : TA) : TE := fun σ H Q => t σ H fun vs H1 => ∀ x dx, H1 x = none → H1 dx = none → dx ≠ x →
  sp (.ref x :: (vs ++ dvs)) (upd (upd H1 dx (.own x)) x (.ins C dx [])) (fun v H2 => v = .non ∧ Q (.ref x) H2) E

/-- how the parameters are bound: us the positional arguments, kw the keywords' values by name, ds the defaults that fill up -/
def Binds (K : PySem.W.Frag) (fd : FuncData) (ps : List Str) (ds : List Value) : Prop :=
  ∀ (s : Shared) (us : List Value), K.In s.heap → (us ++ ds).length = ps.length → BindsTo s fd ⟨us, []⟩ (ps.zip (us ++ ds))
/-- every parameter is given -/
theorem Binds.all {K : PySem.W.Frag} {fd : FuncData} {ps : List Str} (h : ∀ us : List Value, us.length = ps.length → bindArgs fd ⟨us, []⟩ = pure (ps.zip us)) : Binds K fd ps [] := fun s us _ hl => by
  rw [List.append_nil] at hl ⊢
  exact .of_eq (h us hl)

/-- an exception of a callee reaches what this body wants of exceptions -/
def Passes (CX : CXT) (X : Cx) (E : XK) : Prop := ∀ (pins : List (Addr × Obj)) (σ : St) (H : Hp) (s : Shared) (e : Value) (s' : Shared), Inv X pins σ H s → CX X.stack H s E e s' → X.xe e s'

section
variable {X : Cx} {CX : CXT} {k : Nat} {f C : Addr} {fd : FuncData} {ps : List Str} {sp : Sp} {dvs : List V} {ds : List Value} {E : XK} {x m : Str} {p pos apos : Pos} {e o : Expr} {es : List Expr} {ta : TE} {t : TA}

/-- the callee runs -/
theorem run_fn {pins : List (Addr × Obj)} {σ : St} {H : Hp} {s : Shared} {Q : VK} {us : List Value} {vs : List V} (F : FnOk X.prog X.w X.K X.mg X.base CX k f fd ps sp) (hr : Room k X.A) (hb : Binds X.K fd ps ds) (hd : Vals dvs ds) (hx : Passes CX X E)
    (I : Inv X pins σ H s) (r : Vals vs us) (h : sp (vs ++ dvs) H Q E) : wpAny (model X.prog X.w) X.A (call (.ref f) us) (EP X pins σ Q) X.xe s := by
  have r2 : Vals (vs ++ dvs) (us ++ ds) := r.append hd
  have hl : (us ++ ds).length = ps.length := by rw [← r2.length]; exact F.len _ _ _ _ h
  refine wpAny_call (codeAny_mono (F.run X.A X.stack s H ⟨us, []⟩ (us ++ ds) (vs ++ dvs) Q E hr I.env0 (hb s us I.kIn hl) r2 h) fun r s' hq => ?_)
  cases r with
  | error e => exact hx pins σ H s e s' I hq
  | ok fl =>
    cases fl with
    | ret u => exact I.after hq
    | next => exact False.elim hq
    | brk => exact False.elim hq
    | cont => exact False.elim hq

theorem pe_call (F : FnOk X.prog X.w X.K X.mg X.base CX k f fd ps sp) (hr : Room k X.A) (hg : Gl X x) (hm : X.mg x = some (.ref f)) (hk : PySem.W.keepIn X.K (.ref f) = true) (hb : Binds X.K fd ps ds) (hd : Vals dvs ds) (hx : Passes CX X E)
    (ha : PA X (e :: es) t) (hdb : (x == ("__debug__" : Str)) = false := by decide) (he : starEach (e :: es) X.env = (false, eval e X.env) :: starEach es X.env := by rfl) (hpl : (backTo pos (starEach es X.env)).any (·.1) = false := by rfl) :
    PE X (.Call (.Name x p) (e :: es) [] pos) (tCall sp dvs E t) := by
  intro pins s σ H Q I h
  refine wpAny_Call_Name_kw (ld_glob I hg hm ?_ hdb)
  refine PySem.W.callWith_K (h₀ := X.base) I.ok.mod.kin hk (thn (ha pos pins s σ H _ I h) fun us s1 ⟨vs, H1, I1, r, q⟩ => ⟨I1.kIn, ?_⟩) he hpl
  exact run_fn F hr hb hd hx I1 r q
/-- o.m(e, ..) -/
theorem pe_meth {pl : Sem Bool} (he : PE X o ta) (c : Cls X.K C) (hm : Meth X.K C m f) (F : FnOk X.prog X.w X.K X.mg X.base CX k f fd ps sp) (hr : Room k X.A) (hb : Binds X.K fd ps ds) (hd : Vals dvs ds) (hx : Passes CX X E) (ha : PA X (e :: es) t)
    (hst : starEach (e :: es) X.env = (false, eval e X.env) :: starEach es X.env := by rfl) (hpl : (backTo pos (starEach es X.env)).any (·.1) = false := by rfl)
    (ht : eval (.Call (.Attribute o m apos) (e :: es) [] pos) X.env = (do
      let ov ← eval o X.env
      standAt apos.atName
      let (f, first) ← holding [ov] (getMethod ov m pl)
      callWith pos f first (backTo pos (starEach (e :: es) X.env)) (backToKw pos (keywordEach [] X.env))) := by rfl) :
    PE X (.Call (.Attribute o m apos) (e :: es) [] pos) (tMeth C m sp dvs E ta t) := by
  intro pins s σ H Q I h
  refine PySem.W.methodCall_KW (pl := pl) (thn (he pins s σ H _ I h) fun u s1 ⟨x, H1, I1, rx, a, dx, fs, ex, ea, l, q⟩ => ?_) ht
  subst ex
  obtain rfl : u = Value.ref a := rx
  refine getmeth_ok I1 ea c hm l ?_
  refine PySem.W.callWith_K (first := [.ref a]) (h₀ := X.base) I.ok.mod.kin hm.kp (thn (ha pos pins s1 σ H1 _ I1 q) fun us s2 ⟨vs, H2, I2, r, q2⟩ => ⟨I2.kIn, ?_⟩) hst hpl
  exact run_fn (us := .ref a :: us) (vs := .ref a :: vs) F hr hb hd hx I2 (.cons rfl r) q2
/-- o.m() -/
theorem pe_meth0 {pl : Sem Bool} (he : PE X o ta) (c : Cls X.K C) (hm : Meth X.K C m f) (F : FnOk X.prog X.w X.K X.mg X.base CX k f fd ps sp) (hr : Room k X.A) (hb : Binds X.K fd ps ds) (hd : Vals dvs ds) (hx : Passes CX X E)
    (ht : eval (.Call (.Attribute o m apos) [] [] pos) X.env = (do
      let ov ← eval o X.env
      standAt apos.atName
      let (f, first) ← holding [ov] (getMethod ov m pl)
      callWith pos f first (backTo pos (starEach [] X.env)) (backToKw pos (keywordEach [] X.env))) := by rfl) :
    PE X (.Call (.Attribute o m apos) [] [] pos) (tMeth C m sp dvs E ta tNil) := by
  intro pins s σ H Q I h
  refine PySem.W.methodCall_KW (pl := pl) (thn (he pins s σ H _ I h) fun u s1 ⟨x, H1, I1, rx, a, dx, fs, ex, ea, l, q⟩ => ?_) ht
  subst ex
  obtain rfl : u = Value.ref a := rx
  refine getmeth_ok I1 ea c hm l ?_
  exact PySem.W.callWith_K0 (first := [.ref a]) I1.kIn hm.kp (run_fn (us := [.ref a]) (vs := [.ref a]) F hr hb hd hx I1 (.cons rfl .nil) q)

/-- what a class must have to be made -/
structure Mk (K : PySem.W.Frag) (C f : Addr) : Prop where
  makes : PySem.W.makesIn K C = true
  init : PySem.W.findIn K (.ref C) "__init__" = some (some (.ref f))
  fn : PySem.W.isFn K (.ref f) = true
  kp : PySem.W.keepIn K (.ref C) = true

theorem run_make {pins : List (Addr × Obj)} {σ : St} {H : Hp} {s : Shared} {Q : VK} {us : List Value} {vs : List V} (M : Mk X.K C f) (F : FnOk X.prog X.w X.K X.mg X.base CX k f fd ps sp) (hr : Room (k + 1) X.A) (hb : Binds X.K fd ps ds) (hd : Vals dvs ds)
    (hx : Passes CX X E) (I : Inv X pins σ H s) (r : Vals vs us)
    (h : ∀ x dx, H x = none → H dx = none → dx ≠ x → sp (.ref x :: (vs ++ dvs)) (upd (upd H dx (.own x)) x (.ins C dx [])) (fun v H2 => v = .non ∧ Q (.ref x) H2) E) :
    wpAny (model X.prog X.w) X.A (call (.ref C) us) (EP X pins σ Q) X.xe s := by
  have hq := h (s.heap.objs.size + 1) s.heap.objs.size (I.hok.fresh (Nat.le_succ _)) (I.hok.fresh (Nat.le_refl _)) (Nat.ne_of_lt (Nat.lt_succ_self _))
  have I2 := Inv.made (C := C) I
  have r2 : Vals (V.ref (s.heap.objs.size + 1) :: (vs ++ dvs)) (Value.ref (s.heap.objs.size + 1) :: (us ++ ds)) := .cons rfl (r.append hd)
  have hl : (Value.ref (s.heap.objs.size + 1) :: us ++ ds).length = ps.length := by
    have e := r2.length
    rw [F.len _ _ _ _ hq] at e
    exact e.symm
  refine wpAny_call (make_map (f := f) I.kIn M.makes M.init (beq_iff_eq.mp M.fn) (codeAny_mono (F.run _ X.stack _ _ ⟨Value.ref (s.heap.objs.size + 1) :: us, []⟩ (Value.ref (s.heap.objs.size + 1) :: (us ++ ds)) _ _ E (hr.make C us [])
    (I2.env0.make C us []) (hb _ (Value.ref (s.heap.objs.size + 1) :: us) I2.kIn hl) r2 hq) fun r s' hq' => ?_))
  cases r with
  | error e => exact hx pins σ _ _ e s' I2 hq'
  | ok fl =>
    cases fl with
    | ret u =>
      obtain ⟨v, H', I3, rv, ev, q3⟩ := I2.after hq'
      subst ev
      exact ⟨rv, ⟨V.ref (s.heap.objs.size + 1), H', I3, rfl, q3⟩⟩
    | next => exact False.elim hq'
    | brk => exact False.elim hq'
    | cont => exact False.elim hq'
theorem pe_make0 (M : Mk X.K C f) (F : FnOk X.prog X.w X.K X.mg X.base CX k f fd ps sp) (hr : Room (k + 1) X.A) (hg : Gl X x) (hm : X.mg x = some (.ref C)) (hb : Binds X.K fd ps ds) (hd : Vals dvs ds) (hx : Passes CX X E)
    (hdb : (x == ("__debug__" : Str)) = false := by decide) : PE X (.Call (.Name x p) [] [] pos) (tMake C sp dvs E tNil) := by
  intro pins s σ H Q I h
  refine wpAny_Call_Name_kw (ld_glob I hg hm ?_ hdb)
  exact PySem.W.callWith_K0 I.kIn M.kp (run_make (us := []) M F hr hb hd hx I .nil h)
end

/-! ### keywords -/
section
variable {X : Cx} {CX : CXT} {k : Nat} {f C : Addr} {fd : FuncData} {ps ks : List Str} {sp : Sp} {E : XK} {x m : Str} {p pos apos kpos : Pos} {e o : Expr} {es : List Expr} {kws : List Keyword} {te ta : TE} {t tk : TA} {nm : Option Str}
variable {g : List Value → List Value → List Value} {gV : List V → List V → List V}
end

/-! ### a def's body keeps its promise -/
/-- names: the parameters first -/
structure FnScope (N P : List Str) (sc : Scope) : Prop where
  kind : sc.kind = .function
  co : sc.isCoroutine = false
  gen : sc.isGenerator = false
  nd : N.Nodup
  pre : N.take P.length = P
  par : ∀ x ∈ P, sc.names.lookup x = some .local ∨ sc.names.lookup x = some .cell
  nofree : ∀ y ∈ sc.names, y.2 ≠ .free

theorem bindL_out {kindOf : Str → Option NameKind} {x : Str} : ∀ {binds : List (Str × Value)} {m : Str → Option Value}, (∀ v, (x, v) ∉ binds) → bindL kindOf binds m x = m x
  | [], _, _ => rfl
  | (n, v) :: r, m, h => by
    unfold bindL
    rw [bindL_out fun w hw => h w (List.mem_cons_of_mem _ hw)]
    split
    · have : x ≠ n := by rintro rfl; exact h v List.mem_cons_self
      simp [this]
    · rfl
theorem bindC_out {kindOf : Str → Option NameKind} {x : Str} : ∀ {binds : List (Str × Value)} {m : Str → Option Value}, (∀ v, (x, v) ∉ binds) → bindC kindOf binds m x = m x
  | [], _, _ => rfl
  | (n, v) :: r, m, h => by
    unfold bindC
    rw [bindC_out fun w hw => h w (List.mem_cons_of_mem _ hw)]
    split
    · rfl
    · have : x ≠ n := by rintro rfl; exact h v List.mem_cons_self
      simp [this]
theorem bindL_get {kindOf : Str → Option NameKind} {x : Str} {v : Value} : ∀ {P : List Str} {vs : List Value} {i : Nat} {m : Str → Option Value}, P.Nodup → P[i]? = some x → vs[i]? = some v → kindOf x = some .local →
    bindL kindOf (P.zip vs) m x = some v
  | [], _, _, _, _, h, _, _ => by simp at h
  | _ :: _, [], _, _, _, _, h, _ => by simp at h
  | p :: P, w :: vs, 0, m, nd, h1, h2, hk => by
    simp at h1 h2; subst h1; subst h2
    show bindL kindOf ((p, w) :: P.zip vs) m p = _
    unfold bindL
    rw [bindL_out fun v hv => (List.nodup_cons.mp nd).1 (List.of_mem_zip hv).1, if_pos hk]
    simp
  | p :: P, w :: vs, i + 1, m, nd, h1, h2, hk => by
    show bindL kindOf ((p, w) :: P.zip vs) m x = _
    unfold bindL
    exact bindL_get (i := i) (List.nodup_cons.mp nd).2 (by simpa using h1) (by simpa using h2) hk
theorem bindC_get {kindOf : Str → Option NameKind} {x : Str} {v : Value} : ∀ {P : List Str} {vs : List Value} {i : Nat} {m : Str → Option Value}, P.Nodup → P[i]? = some x → vs[i]? = some v → kindOf x ≠ some .local →
    bindC kindOf (P.zip vs) m x = some v
  | [], _, _, _, _, h, _, _ => by simp at h
  | _ :: _, [], _, _, _, _, h, _ => by simp at h
  | p :: P, w :: vs, 0, m, nd, h1, h2, hk => by
    simp at h1 h2; subst h1; subst h2
    show bindC kindOf ((p, w) :: P.zip vs) m p = _
    unfold bindC
    rw [bindC_out fun v hv => (List.nodup_cons.mp nd).1 (List.of_mem_zip hv).1, if_neg hk]
    simp
  | p :: P, w :: vs, i + 1, m, nd, h1, h2, hk => by
    show bindC kindOf ((p, w) :: P.zip vs) m x = _
    unfold bindC
    exact bindC_get (i := i) (List.nodup_cons.mp nd).2 (by simpa using h1) (by simpa using h2) hk

/-- the names' values at the entry -/
def start (N : List Str) (vs : List V) : St := vs.map some ++ List.replicate (N.length - vs.length) none

/-- the context of a def's body, at its entry; an exception leaves the frame, then lies as CX says -/
def cxOf (CX : CXT) (P : Program) (w : World) (K : PySem.W.Frag) (mg : Str → Option Value) (base : Heap) (N : List Str) (qual : Str) (scope : Scope) (f : Addr) (cd : Value) (A : Around) (outer : List Env) (s : Shared) (H : Hp) (E : XK) : Cx where
  prog := P
  w := w
  K := K
  mg := mg
  base := base
  A := A.deeper (envOfC qual scope s.heap.objs.size f cd)
  N := N
  s₀ := s
  H₀ := H
  env := envOfC qual scope s.heap.objs.size f cd
  outer := outer
  stack := envOfC qual scope s.heap.objs.size f cd :: outer
  ex := []
  calm := true
  fn := fun _ => true
  pn := []
  xe := fun e s' => wpAny (model P w) (A.deeper (envOfC qual scope s.heap.objs.size f cd)) (leaving (envOfC qual scope s.heap.objs.size f cd) e) (fun _ s'' => CX outer H s E e s'') (fun e' s'' => CX outer H s E e' s'') s'

theorem cell_has {sc : Scope} {n : Nat} {x : Str} (h : sc.names.lookup x = some .cell) : ∃ c, (cellsFrom n sc.names []).lookup x = some c := by
  have q := PySem.W.cellsFrom_some sc.names n [] (.inl h)
  exact Option.isSome_iff_exists.mp q

theorem inv_start {CX : CXT} {P : Program} {w : World} {K : PySem.W.Frag} {mg : Str → Option Value} {base : Heap} {N ps : List Str} {qual : Str} {scope : Scope} {f : Addr} {cd : Value} {A : Around} {outer : List Env} {s s1 : Shared} {H : Hp} {E : XK} {us : List Value} {vs : List V}
    (S : FnScope N ps scope) (hd : A.handled = none) (e0 : Env0 P w K mg base A outer s H) (hl : vs.length = ps.length) (r : Vals vs us)
    (x : InCallC s s.heap.objs.size (bindL (envOfC qual scope s.heap.objs.size f cd).kindOf (ps.zip us) fun _ => none) (cellsFrom (s.heap.objs.size + 1) scope.names []) (bindC (envOfC qual scope s.heap.objs.size f cd).kindOf (ps.zip us) fun _ => none) s1) :
    Inv (cxOf CX P w K mg base N qual scope f cd A outer s H E) [] (start N vs) H s1 := by
  have hpl : ps.length ≤ N.length := by have := congrArg List.length S.pre; rw [List.length_take] at this; omega
  obtain ⟨h1, tk, rfl, hk⟩ := x.done
  have noA : ∀ b : Addr, b ∉ (cxOf CX P w K mg base N qual scope f cd A outer s H E).ex := fun b z => absurd (show b ∈ ([] : List Addr) from z) (by simp)
  refine ⟨⟨e0.mod, S.kind, rfl, rfl, Nat.le_refl _, fun y z c h1 h2 => ?_, fun y hy => ?_, fun y c _ h => ?_, fun _ => hd, Around.frames_deeper e0.frames, .inr ⟨rfl, rfl⟩, fun b z => absurd z (noA b), e0.bs, e0.bsz, fun b _ _ => noA b, fun b z => absurd z (noA b), e0.funs, e0.frf⟩,
    rfl, e0.bare, Un.kept hk, ⟨_, x.toInCall.ns, fun i y v h1 h2 h3 => ?_⟩, fun y c h => ⟨_, x.cell y c h⟩, e0.hok.fresh (Nat.le_refl _), fun y c h => ?_, fun p hp => absurd (show p ∈ ([] : List (Addr × Obj)) from hp) (by simp), e0.hok.kept hk, ?_⟩
  · exact name_of_addr x.apart (PySem.mem_of_lookup h1) (PySem.mem_of_lookup h2)
  · have hy : scope.names.lookup y = some .cell ∨ scope.names.lookup y = some .free := hy
    rcases hy with hy | hy
    · exact cell_has hy
    · exact absurd rfl (S.nofree _ (PySem.mem_of_lookup hy))
  · exact Nat.le_of_lt (x.above y c (PySem.mem_of_lookup h))
  · have hi : i < vs.length := by
      unfold start at h2
      by_cases hi : i < vs.length
      · exact hi
      · rw [List.getElem?_append_right (by simpa using hi)] at h2
        rw [List.getElem?_replicate] at h2
        split at h2 <;> cases h2
    have ha : vs[i]? = some v := by
      unfold start at h2
      rw [List.getElem?_append_left (by simpa using hi), List.getElem?_map] at h2
      cases e : vs[i]? with
      | none => rw [e] at h2; cases h2
      | some a => rw [e] at h2; cases h2; rfl
    obtain ⟨u, hu, rv⟩ := r.get ha
    have hp : ps[i]? = some y := by
      rw [← S.pre, List.getElem?_take_of_lt (by omega)]; exact h1
    have ndP : ps.Nodup := by rw [← S.pre]; exact S.nd.sublist (List.take_sublist _ _)
    refine ⟨u, rv, ?_⟩
    rcases S.par y (List.mem_of_getElem? hp) with k | k
    · exact .inl ⟨k, bindL_get ndP hp hu k⟩
    · obtain ⟨c, e⟩ := cell_has (n := s.heap.objs.size + 1) k
      refine .inr ⟨.inl k, c, e, ?_⟩
      have q := x.cell y c e
      rw [bindC_get ndP hp hu (by show scope.names.lookup y ≠ _; rw [k]; decide)] at q
      exact q
  · exact e0.hok.fresh (Nat.le_of_lt (x.above y c (PySem.mem_of_lookup h)))
  · unfold start
    show _ = N.length
    rw [List.length_append, List.length_map, List.length_replicate]
    omega

/-- THE RULE: a def (or a method) of the text, by its body. The body's reading t is chosen for each entry; it is run at the parameters' values -/
theorem fn_of {CX : CXT} {P : Program} {w : World} {K : PySem.W.Frag} {mg : Str → Option Value} {base : Heap} {k : Nat} {f : Addr} {name qual : Str} {params : Arguments} {body : List Stmt} {scope : Scope} {dV kV doc pm cdv ct oc : Value} {an od : Option Addr}
    {osl : Array (Option Value)} {N ps : List Str} {sp : Sp} (lk : K.lookup f = some ⟨oc, od, .func (PySem.W.fnOf name qual params body scope dV kV doc pm an cdv ct), osl⟩) (hcd : PySem.W.codeIn K cdv qual = true) (S : FnScope N ps scope)
    (len : ∀ vs H Q E, sp vs H Q E → vs.length = ps.length)
    (hbody : ∀ (A : Around) (outer : List Env) (s : Shared) (H : Hp) (vs : List V) (Q : VK) (E : XK), Room k (A.deeper (envOfC qual scope s.heap.objs.size f cdv)) → sp vs H Q E →
      ∃ t, PSs (cxOf CX P w K mg base N qual scope f cdv A outer s H E) body t ∧ t { nx := fun _ H' => Q .non H', rt := Q } (start N vs) H) :
    FnOk P w K mg base CX (k + 1) f (PySem.W.fnOf name qual params body scope dV kV doc pm an cdv ct) ps sp := by
  refine ⟨len, fun A outer s H args us vs Q E hr e0 hb r hsp => ?_⟩
  have hl := len _ _ _ _ hsp
  have KX : K.In s.heap := e0.mod.kin.keeps fun b o e => (e0.bs b o e).1
  have lim : s.heap.NoLimit := e0.mod.nolimit.keeps fun b o e => (e0.bs b o e).1
  have hkind : ∀ y ∈ ps.zip us, scope.names.lookup y.1 = some .local ∨ (scope.names.lookup y.1 = some .cell ∧ ((cellsFrom (s.heap.objs.size + 1) scope.names []).lookup y.1).isSome = true) := fun ⟨n, v⟩ hy => by
    rcases S.par n (List.of_mem_zip hy).1 with q | q
    · exact .inl q
    · exact .inr ⟨q, PySem.W.cellsFrom_some _ _ _ (.inl q)⟩
  refine codeAny_call_function hr.depth (KX _ _ lk) rfl S.co S.gen rfl (PySem.W.codeRec_of KX hcd) (hb _ _ _ _ ?_)
  refine wpAny_newFunctionEnv_cells S.kind hkind fun env he s1 x => ?_
  subst he
  refine ⟨lim.keeps x.toInCall.keep, codeAny_func ?_⟩
  obtain ⟨t, ht, hq⟩ := hbody A outer s H vs Q E (hr.deeper _) hsp
  have I : Inv (cxOf CX P w K mg base N qual scope f cdv A outer s H E) [] (start N vs) H s1 := inv_start S hr.hd e0 hl r x
  refine wpAny_mono (ht [] s1 (start N vs) H _ I hq) (fun fl s' hs => ?_) fun e s' hs => hs
  have fin : ∀ {σ' : St} {H' : Hp} {v : V} {u : Value}, Inv (cxOf CX P w K mg base N qual scope f cdv A outer s H E) [] σ' H' s' → RelV v u → Q v H' → CE outer P w H s Q u s' :=
    fun {σ' H' v u} J rv q => ⟨v, H', J.os, J.bare, J.base, J.hok, rv, q⟩
  cases fl with
  | ret u =>
    obtain ⟨v, σ', H', J, rv, q⟩ := hs
    exact fin J rv q
  | next =>
    obtain ⟨σ', H', J, q⟩ := hs
    exact fin (v := V.non) (u := Value.none) J rfl q
  | brk =>
    obtain ⟨_, _, _, q⟩ := hs
    exact False.elim q
  | cont =>
    obtain ⟨_, _, _, q⟩ := hs
    exact False.elim q
end L2

namespace L2
open PySem PySem.Spec PyProof.Rows
section
variable {X : Cx} {x : Str} {p pos : Pos} {e : Expr} {es : List Expr} {t : TA} {id T : String} {r : List V → Hp → VK → Prop}

def tCB (r : List V → Hp → VK → Prop) (t : TA) : TE := fun σ H Q => t σ H fun vs H1 => r vs H1 Q
/-- f(e, ..), f a built-in function -/
theorem pe_callB (hc : CallR X (.builtin id) r) (hg : Gl X x) (hm : X.mg x = none) (hv : bootBuiltins x = some (.builtin id)) (ha : PA X (e :: es) t) (hn : x ≠ "__name__" := by decide) (hdb : (x == ("__debug__" : Str)) = false := by decide)
    (he : starEach (e :: es) X.env = (false, eval e X.env) :: starEach es X.env := by rfl) (hpl : (backTo pos (starEach es X.env)).any (·.1) = false := by rfl) : PE X (.Call (.Name x p) (e :: es) [] pos) (tCB r t) := by
  intro pins s σ H Q I h
  refine wpAny_Call_Name_kw (ld_blt I hg hm hv ?_ hn hdb)
  exact PyProof.Rows.callWith_builtin1 (thn (ha pos pins s σ H _ I h) fun us s1 ⟨vs, H1, I1, r1, q1⟩ => hc pins s1 σ H1 vs us Q I1 r1 q1) he hpl
/-- T(e, ..), T a built-in type -/
theorem pe_callTy (hc : CallR X (.type T) r) (hg : Gl X x) (hm : X.mg x = none) (hv : bootBuiltins x = some (.type T)) (ha : PA X (e :: es) t) (hn : x ≠ "__name__" := by decide) (hdb : (x == ("__debug__" : Str)) = false := by decide)
    (he : starEach (e :: es) X.env = (false, eval e X.env) :: starEach es X.env := by rfl) (hpl : (backTo pos (starEach es X.env)).any (·.1) = false := by rfl) : PE X (.Call (.Name x p) (e :: es) [] pos) (tCB r t) := by
  intro pins s σ H Q I h
  refine wpAny_Call_Name_kw (ld_blt I hg hm hv ?_ hn hdb)
  exact PyProof.Rows.callWith_type1 (thn (ha pos pins s σ H _ I h) fun us s1 ⟨vs, H1, I1, r1, q1⟩ => hc pins s1 σ H1 vs us Q I1 r1 q1) he hpl
end
end L2

namespace HT
open PySem PyProof.Rows

section
open PySem.SeqAt
open PySem.AutoSeq1 (wpAny_loadPart')
open PySem.MeetsSeq PySem.MeetsSeq2 PySem.MeetsSeq3

end

section
variable {prog : Program} {w : World} {A : Around} {E : Value → Shared → Prop} {s : Shared}

/-! ### t[a:b], not the whole -/
end
end HT

namespace L2
open PySem PySem.Spec PyProof.Rows

/-! ### the parts of a slice -/
abbrev TO := St → Hp → (Option Int → Hp → Prop) → Prop
section
variable {X : Cx} {e : Expr} {te : TE} {lo hi : Option Expr} {tl th : TO} {pos p2 : Pos}

/-- what a slice of a value is, by values: the slice object stands at sl -/
def SlR (X : Cx) (r : V → Option Int → Option Int → Hp → VK → Prop) : Prop :=
  ∀ (pins : List (Addr × Obj)) (s : Shared) (σ : St) (H : Hp) (x : V) (v vl vu : Value) (lo hi : Option Int) (sl : Addr) (Q : VK), Inv X pins σ H s → RelV x v → s.heap.IsSliceOf sl vl vu .none → IsPart vl lo → IsPart vu hi → r x lo hi H Q →
    ∃ T id, typeLookup (.type T) "__getitem__" = pure (some (.builtin id)) ∧ s.TypeIs v T ∧ wpAny (model X.prog X.w) X.A (getItem v (.ref sl)) (EP X pins σ Q) X.xe s
theorem SlR.or {r r' : V → Option Int → Option Int → Hp → VK → Prop} (h : SlR X r) (h' : SlR X r') : SlR X (fun x lo hi H Q => r x lo hi H Q ∨ r' x lo hi H Q) := by
  intro pins s σ H x v vl vu lo hi sl Q I rx hs pl pu q
  rcases q with q | q
  · exact h pins s σ H x v vl vu lo hi sl Q I rx hs pl pu q
  · exact h' pins s σ H x v vl vu lo hi sl Q I rx hs pl pu q
/-! ### t < u, t + u -/
end
end L2

namespace L2
open PySem PySem.Spec PyProof.Rows

/-! ### places -/
/-- the place that an index of any sign means -/
def ixN (n : Nat) (i : Int) : Option Nat := if 0 ≤ i then (if i < n then some i.toNat else none) else if -(n : Int) ≤ i then some (i + n).toNat else none
def atI {α : Type} (xs : List α) (i : Int) : Option α := (ixN xs.length i).bind fun j => xs[j]?
theorem ixN_seq {n : Nat} {i : Int} {j : Nat} (h : ixN n i = some j) : seqIndex? i n = some j ∧ j < n ∧ -(n : Int) ≤ i ∧ i < n := by
  unfold ixN at h
  by_cases h0 : 0 ≤ i
  · rw [if_pos h0] at h
    by_cases h1 : i < n
    · rw [if_pos h1] at h
      have e : i.toNat = j := Option.some.inj h
      exact ⟨by rw [seqIndex_of h0 h1, e], by omega, by omega, h1⟩
    · rw [if_neg h1] at h; cases h
  · rw [if_neg h0] at h
    by_cases h1 : -(n : Int) ≤ i
    · rw [if_pos h1] at h
      have e : (i + n).toNat = j := Option.some.inj h
      exact ⟨by rw [seqIndex_neg (by omega) h1, e], by omega, h1, by omega⟩
    · rw [if_neg h1] at h; cases h
theorem atI_get {α : Type} {xs : List α} {i : Int} {v : α} (h : atI xs i = some v) : ∃ j, seqIndex? i xs.length = some j ∧ xs[j]? = some v ∧ j < xs.length ∧ -(xs.length : Int) ≤ i ∧ i < xs.length := by
  unfold atI at h
  cases e : ixN xs.length i with
  | none => rw [e] at h; cases h
  | some j =>
    rw [e] at h
    obtain ⟨h1, h2, h3, h4⟩ := ixN_seq e
    exact ⟨j, h1, h, h2, h3, h4⟩
theorem atI_nat {α : Type} {xs : List α} {j : Nat} {v : α} (h : xs[j]? = some v) : atI xs (j : Int) = some v := by
  have hj : j < xs.length := (List.getElem?_eq_some_iff.mp h).1
  have e : ixN xs.length (j : Int) = some j := by
    unfold ixN
    rw [if_pos (by omega), if_pos (by omega)]; simp
  unfold atI; rw [e]; exact h
/-! ### what may be subscripted -/
/-- what stands as an index of a plain subscript -/
def PlainIx (b : Expr) : Prop := ∀ o i, subscripted b false o i = operate [o, i] (getItem o i)
/-- a subscript by values -/
def IxR (X : Cx) (r : R2) : Prop :=
  ∀ (value slice : Expr) (pins : List (Addr × Obj)) (s : Shared) (σ : St) (H : Hp) (x y : V) (v u : Value) (Q : VK), Inv X pins σ H s → RelV x v → RelV y u → r x y H Q →
    subscripted slice false v u = operate [v, u] (getItem v u) → wpAny (model X.prog X.w) X.A (subscriptTail value slice v u) (EP X pins σ Q) X.xe s
/-- a call of a builtin's method by values: the receiver, the arguments -/
def MtR (X : Cx) (id : String) (r : V → List V → Hp → VK → Prop) : Prop :=
  ∀ (pins : List (Addr × Obj)) (s : Shared) (σ : St) (H : Hp) (x : V) (xs : List V) (v : Value) (us : List Value) (Q : VK), Inv X pins σ H s → RelV x v → Vals xs us → r x xs H Q →
    wpAny (model X.prog X.w) X.A (call (.builtin id) (v :: us)) (EP X pins σ Q) X.xe s
section
variable {X : Cx} {a b : Expr} {ta tb : TE} {pos : Pos}
theorem IxR.or {r r' : R2} (h : IxR X r) (h' : IxR X r') : IxR X (fun x y H Q => r x y H Q ∨ r' x y H Q) := by
  intro value slice pins s σ H x y v u Q I rx ry q hs
  rcases q with q | q
  · exact h value slice pins s σ H x y v u Q I rx ry q hs
  · exact h' value slice pins s σ H x y v u Q I rx ry q hs
theorem MtR.or {id : String} {r r' : V → List V → Hp → VK → Prop} (h : MtR X id r) (h' : MtR X id r') : MtR X id (fun x xs H Q => r x xs H Q ∨ r' x xs H Q) := by
  intro pins s σ H x xs v us Q I rx rs q
  rcases q with q | q
  · exact h pins s σ H x xs v us Q I rx rs q
  · exact h' pins s σ H x xs v us Q I rx rs q
/-- a[b] -/
theorem pe_ix {r : R2} (hr : IxR X r) (ha : PE X a ta) (hb : PE X b tb) (hs : PlainIx b) : PE X (.Subscript a b pos) (tOp r ta tb) := by
  intro pins s σ H Q I h
  exact Subscript_ (binT ha hb I h fun v u s2 x y H2 I2 rx ry q => hr a b pins s2 σ H2 x y v u Q I2 rx ry q (hs _ _))

def rIxL (K : PySem.W.Frag) : R2 := fun x y H Q => ∃ p xs i v, x = .ref p ∧ y = .int i ∧ SqL K H p xs ∧ atI xs i = some v ∧ Q v H
def rIxT (K : PySem.W.Frag) : R2 := fun x y H Q => ∃ p xs i v, x = .ref p ∧ y = .int i ∧ SqT K H p xs ∧ atI xs i = some v ∧ Q v H
def rIxS : R2 := fun x y H Q => ∃ z i c, x = .str z ∧ y = .int i ∧ z.length ≤ sizeLine ∧ atI z.cps.toList i = some c ∧ Q (.str ⟨#[c]⟩) H
theorem ix_list : IxR X (rIxL X.K) := by
  intro value slice pins s σ H x y v u Q I rx ry h hs
  obtain ⟨p, xs, i, z, rfl, rfl, hq, he, q⟩ := h
  cases rx
  obtain ⟨t, rfl⟩ := ry
  obtain ⟨its, r, pl, hz⟩ := I.list hq
  obtain ⟨j, h1, h2, h3, h4, h5⟩ := atI_get he
  obtain ⟨w, ew, rw'⟩ := r.get h2
  have hl := r.length
  have hn := line63
  have fin : EP X pins σ Q w s := ⟨z, H, I, rw', q⟩
  by_cases h0 : 0 ≤ i
  · have hj : i.toNat = j := by
      rw [seqIndex_of h0 h5] at h1
      exact Option.some.inj h1
    exact item_listR pl.isList h0 (by omega) (by rw [hj]; simpa using ew) fin hs
  · have hj : (i + (its.toArray.size : Int)).toNat = j := by
      rw [seqIndex_neg (by omega) h4] at h1
      rw [List.size_toArray, ← hl]
      exact Option.some.inj h1
    exact subscriptTail_builtinR (x := w) pl.isList.typeIs slot_list_getitem.lookup
      (wpAny_getItem_list_neg (Q := fun r s' => r = w ∧ EP X pins σ Q r s') pl.isList (by omega) (by rw [List.size_toArray] <;> omega) (by omega) (by rw [hj]; simpa using ew) ⟨rfl, fin⟩) hs
theorem ix_tup : IxR X (rIxT X.K) := by
  intro value slice pins s σ H x y v u Q I rx ry h hs
  obtain ⟨p, xs, i, z, rfl, rfl, hq, he, q⟩ := h
  cases rx
  obtain ⟨t, rfl⟩ := ry
  obtain ⟨its, r, pl, hz⟩ := I.tuple hq
  obtain ⟨j, h1, h2, h3, h4, h5⟩ := atI_get he
  obtain ⟨w, ew, rw'⟩ := r.get h2
  have hl := r.length
  have hn := line63
  have fin : EP X pins σ Q w s := ⟨z, H, I, rw', q⟩
  exact subscriptTail_builtinR (x := w) pl.typeIs slot_tuple_getitem.lookup
    (getItem_tuple (j := j) (Q := fun r s' => r = w ∧ EP X pins σ Q r s') pl (by omega) (by omega) (by rw [List.size_toArray, ← hl]; exact h1) (by simpa using ew) ⟨rfl, fin⟩) hs
theorem ix_str : IxR X rIxS := by
  intro value slice pins s σ H x y v u Q I rx ry h hs
  obtain ⟨z, i, c, rfl, rfl, hz, he, q⟩ := h
  obtain ⟨t, rfl⟩ := rx
  obtain ⟨t', rfl⟩ := ry
  obtain ⟨j, h1, h2, h3, h4, h5⟩ := atI_get he
  have hl : z.cps.toList.length = z.length := by simp [Str.length]
  rw [hl] at h1 h4 h5
  have hn := line63
  exact tail_any (typeIs_str s z t) slot_str_getitem.lookup (getItem_str (c := c) (by
    have e1 : decide (i < -(2 ^ 63 : Int)) = false := decide_eq_false (by omega)
    have e2 : decide (i ≥ 2 ^ 63) = false := decide_eq_false (by omega)
    rw [e1, e2, Bool.or_false]) (by rw [h1]; simpa using h2) ⟨.str ⟨#[c]⟩, H, I.tok _, ⟨_, rfl⟩, q⟩) hs
/-! ### xs[i] = v, any sign -/
theorem Inv.lst {pins : List (Addr × Obj)} {σ : St} {H : Hp} {s : Shared} {p : Addr} {xs : List V} (I : Inv X pins σ H s) (h : H p = some (.lst xs)) :
    ∃ (its : List Value) (n : Nat), Vals xs its ∧ s.heap.get? p = some { cls := .type "list", data := .seq its.toArray n } ∧ xs.length ≤ sizeLine := by
  obtain ⟨z, its, n, r, e⟩ := I.hok p _ h
  exact ⟨its, n, r, e, z⟩
/-! ### slices -/
/-! ### in, not in: flat items -/
def flatV : V → Bool
  | .non => true
  | .bl _ => true
  | .int _ => true
  | .str _ => true
  | _ => false
/-- == of flat values -/
def eqV : V → V → Bool
  | .non, .non => true
  | .bl a, .bl b => a == b
  | .bl a, .int b => (if a then 1 else 0) == b
  | .int a, .bl b => a == (if b then 1 else 0)
  | .int a, .int b => a == b
  | .str a, .str b => a == b
  | _, _ => false
theorem eqAt_V {A : Around} {s : Shared} {y x : V} {u v : Value} (ry : RelV y u) (rx : RelV x v) (fy : flatV y = true) (fx : flatV x = true) : SeqAt.EqAt A s u v (eqV y x) := by
  cases y with
  | non =>
    cases ry
    cases x with
    | non => cases rx; exact SeqAt.EqAt.same _
    | bl b => cases rx; exact SeqAt.EqAt.none_bool b
    | int b => obtain ⟨t, rfl⟩ := rx; exact SeqAt.EqAt.none_int b t
    | str b => obtain ⟨t, rfl⟩ := rx; exact SeqAt.EqAt.none_str b t
    | _ => exact absurd (show false = true from fx) Bool.false_ne_true
  | bl a =>
    cases ry
    cases x with
    | non => cases rx; exact SeqAt.EqAt.bool_none a
    | bl b => cases rx; exact SeqAt.EqAt.bool_bool a b
    | int b => obtain ⟨t, rfl⟩ := rx; exact SeqAt.EqAt.bool_int a b t
    | str b => obtain ⟨t, rfl⟩ := rx; exact SeqAt.EqAt.bool_str a b t
    | _ => exact absurd (show false = true from fx) Bool.false_ne_true
  | int a =>
    obtain ⟨t', rfl⟩ := ry
    cases x with
    | non => cases rx; exact SeqAt.EqAt.int_none a t'
    | bl b => cases rx; exact SeqAt.EqAt.int_bool a t' b
    | int b => obtain ⟨t, rfl⟩ := rx; exact SeqAt.EqAt.int_int a t' b t
    | str b => obtain ⟨t, rfl⟩ := rx; exact SeqAt.EqAt.int_str a t' b t
    | _ => exact absurd (show false = true from fx) Bool.false_ne_true
  | str a =>
    obtain ⟨t', rfl⟩ := ry
    cases x with
    | non => cases rx; exact SeqAt.EqAt.str_none a t'
    | bl b => cases rx; exact SeqAt.EqAt.str_bool a t' b
    | int b => obtain ⟨t, rfl⟩ := rx; exact SeqAt.EqAt.str_int a t' b t
    | str b => obtain ⟨t, rfl⟩ := rx; exact SeqAt.EqAt.str_str a t' b t
    | _ => exact absurd (show false = true from fx) Bool.false_ne_true
  | _ => exact absurd (show false = true from fy) Bool.false_ne_true
/-- the items' answers, read off the values (a value's own answer does not lean on its token) -/
def eqU (x : V) (u : Value) : Bool := match u with
  | .none => eqV .non x
  | .bool b => eqV (.bl b) x
  | .int i _ => eqV (.int i) x
  | .str z _ => eqV (.str z) x
  | _ => false
theorem eqU_of {x y : V} {u : Value} (r : RelV y u) (f : flatV y = true) : eqU x u = eqV y x := by
  cases y with
  | non => cases r; rfl
  | bl b => cases r; rfl
  | int i => obtain ⟨t, rfl⟩ := r; rfl
  | str z => obtain ⟨t, rfl⟩ := r; rfl
  | _ => exact absurd (show false = true from f) Bool.false_ne_true
theorem any_eqU {x : V} : ∀ {xs : List V} {us : List Value}, Vals xs us → xs.all flatV = true → us.any (eqU x) = xs.any fun y => eqV y x
  | _, _, .nil, _ => rfl
  | y :: xs, u :: us, .cons r t, f => by
    rw [List.all_cons, Bool.and_eq_true] at f
    rw [List.any_cons, List.any_cons, eqU_of r f.1, any_eqU t f.2]
theorem mem_eqAt {A : Around} {s : Shared} {x : V} {v : Value} (rx : RelV x v) (fx : flatV x = true) : ∀ {xs : List V} {us : List Value}, Vals xs us → xs.all flatV = true → ∀ u ∈ us, SeqAt.EqAt A s u v (eqU x u)
  | _, _, .nil, _ => fun u hu => by cases hu
  | y :: xs, u :: us, .cons r t, f => fun u' hu => by
    rw [List.all_cons, Bool.and_eq_true] at f
    rcases List.mem_cons.mp hu with rfl | hu
    · rw [eqU_of r f.1]; exact eqAt_V r rx f.1 fx
    · exact mem_eqAt rx fx t f.2 u' hu
def inV (x : V) (xs : List V) : Bool := xs.any fun y => eqV y x
/-- x in a list or tuple of flat items -/
def rIn (K : PySem.W.Frag) (neg : Bool) : R2 := fun x y H Q => ∃ p xs, y = .ref p ∧ (SqL K H p xs ∨ SqT K H p xs) ∧ flatV x = true ∧ xs.all flatV = true ∧ Q (.bl (if neg then !inV x xs else inV x xs)) H
theorem op_in_seq : OpR X (compareOp .In) (rIn X.K false) := by
  intro pins s σ H x y v u Q I rx ry h
  obtain ⟨p, xs, rfl, hq, fx, fs, q⟩ := h
  cases ry
  rcases hq with hq | hq
  · obtain ⟨its, r, pl, hz⟩ := I.list hq
    refine SeqAt.in_listAt (eqU x) pl.isList (fun w hw => mem_eqAt rx fx r fs w (by simpa using hw)) ⟨.bl _, H, I, rfl, ?_⟩
    rw [show its.toArray.any (eqU x) = its.any (eqU x) by simp, any_eqU r fs]
    exact q
  · obtain ⟨its, r, pl, hz⟩ := I.tuple hq
    refine SeqAt.in_tupleAt (eqU x) pl (fun w hw => mem_eqAt rx fx r fs w (by simpa using hw)) ⟨.bl _, H, I, rfl, ?_⟩
    rw [show its.toArray.any (eqU x) = its.any (eqU x) by simp, any_eqU r fs]
    exact q
theorem op_notIn_seq : OpR X (compareOp .NotIn) (rIn X.K true) := by
  intro pins s σ H x y v u Q I rx ry h
  obtain ⟨p, xs, rfl, hq, fx, fs, q⟩ := h
  cases ry
  rcases hq with hq | hq
  · obtain ⟨its, r, pl, hz⟩ := I.list hq
    refine SeqAt.notIn_listAt (eqU x) pl.isList (fun w hw => mem_eqAt rx fx r fs w (by simpa using hw)) ⟨.bl _, H, I, rfl, ?_⟩
    rw [show its.toArray.any (eqU x) = its.any (eqU x) by simp, any_eqU r fs]
    exact q
  · obtain ⟨its, r, pl, hz⟩ := I.tuple hq
    refine SeqAt.notIn_tupleAt (eqU x) pl (fun w hw => mem_eqAt rx fx r fs w (by simpa using hw)) ⟨.bl _, H, I, rfl, ?_⟩
    rw [show its.toArray.any (eqU x) = its.any (eqU x) by simp, any_eqU r fs]
    exact q
/-! ### len, list(x), tuple(x) of any list or tuple that is read -/
theorem call_len_seq : CallR X (.builtin "len") (fun xs H Q => ∃ p ys, xs = [.ref p] ∧ (SqL X.K H p ys ∨ SqT X.K H p ys) ∧ Q (.int ys.length) H) := by
  intro pins s σ H xs us Q I r h
  obtain ⟨p, ys, rfl, hq, q⟩ := h
  obtain ⟨u, rfl, rx⟩ := vals1 r
  cases rx
  have hn := line63
  rcases hq with hq | hq
  · obtain ⟨its, r', pl, hz⟩ := I.list hq
    have hlen := r'.length
    exact Calls.call_len_list pl.isList (by simp only [List.size_toArray] <;> omega) ⟨.int ys.length, H, I.tok _, ⟨s.toks + 1, by rw [List.size_toArray, hlen]⟩, q⟩
  · obtain ⟨its, r', pl, hz⟩ := I.tuple hq
    have hlen := r'.length
    exact len_tuple pl (by simp only [List.size_toArray] <;> omega) ⟨.int ys.length, H, I.tok _, ⟨s.toks + 1, by rw [List.size_toArray, hlen]⟩, q⟩
theorem call_len_str : CallR X (.builtin "len") (fun xs H Q => ∃ z, xs = [.str z] ∧ z.length ≤ sizeLine ∧ Q (.int z.length) H) := by
  intro pins s σ H xs us Q I r h
  obtain ⟨z, rfl, hz, q⟩ := h
  obtain ⟨u, rfl, t, rfl⟩ := vals1 r
  have hn := line63
  exact len_str (by omega) ⟨.int z.length, H, I.tok _, ⟨_, rfl⟩, q⟩
theorem CallR.or {f : Value} {r r' : List V → Hp → VK → Prop} (h : CallR X f r) (h' : CallR X f r') : CallR X f (fun xs H Q => r xs H Q ∨ r' xs H Q) := by
  intro pins s σ H xs us Q I rs q
  rcases q with q | q
  · exact h pins s σ H xs us Q I rs q
  · exact h' pins s σ H xs us Q I rs q
theorem call_list_of : CallR X (.type "list") (fun xs H Q => ∃ p ys, xs = [.ref p] ∧ (SqL X.K H p ys ∨ SqT X.K H p ys) ∧ ∀ l, H l = none → Q (.ref l) (upd H l (.lst ys))) := by
  intro pins s σ H xs us Q I r h
  obtain ⟨p, ys, rfl, hq, q⟩ := h
  obtain ⟨u, rfl, rx⟩ := vals1 r
  cases rx
  have fin : ∀ (its : List Value), Vals ys its → ys.length ≤ sizeLine → ∀ (h' : Heap) (c' : Nat), (∀ b o', s.heap.get? b = some o' → h'.get? b = some o') →
      h'.get? s.heap.objs.size = some { cls := .type "list", dict := none, data := .seq its.toArray c', slots := #[] } → EP X pins σ Q (.ref s.heap.objs.size) { s with heap := h' } := fun its r' hz h' c' kp e =>
    ⟨.ref s.heap.objs.size, _, I.laid (t' := s.toks) kp (Nat.le_refl _) (show ObjOk X.prog X.w _ h' _ (.lst ys) from ⟨hz, its, c', r', e⟩), rfl, q _ (I.hok.fresh (Nat.le_refl _))⟩
  rcases hq with hq | hq
  · obtain ⟨its, r', pl, hz⟩ := I.list hq
    have hlen := r'.length
    obtain ⟨o, ho, hc, n, hd⟩ := pl.isList
    exact call_list_seq p (.inl rfl) ho hc hd (fun h' c' kp e => fin its r' hz h' c' kp e) (by simp only [List.size_toArray] <;> omega)
  · obtain ⟨its, r', pl, hz⟩ := I.tuple hq
    have hlen := r'.length
    obtain ⟨o, ho, hc, n, hd⟩ := pl
    exact call_list_seq p (.inr rfl) ho hc hd (fun h' c' kp e => fin its r' hz h' c' kp e) (by simp only [List.size_toArray] <;> omega)
theorem call_tuple_of : CallR X (.type "tuple") (fun xs H Q => ∃ p ys, xs = [.ref p] ∧ ((SqL X.K H p ys ∧ ∀ l, H l = none → Q (.ref l) (upd H l (.tup ys))) ∨ (SqT X.K H p ys ∧ Q (.ref p) H))) := by
  intro pins s σ H xs us Q I r h
  obtain ⟨p, ys, rfl, h⟩ := h
  obtain ⟨u, rfl, rx⟩ := vals1 r
  cases rx
  rcases h with ⟨hq, q⟩ | ⟨hq, q⟩
  · obtain ⟨its, r', pl, hz⟩ := I.list hq
    have hlen := r'.length
    refine call_tuple_list pl.isList (fun h' kp => ?_) (by simp only [List.size_toArray] <;> omega)
    have I1 : Inv X pins σ H { s with heap := h' } := I.kept (t' := s.toks) kp
    have I2 : Inv X pins σ (upd H h'.objs.size (.tup ys)) { s with heap := h'.push { cls := .type "tuple", data := .seq its.toArray } } :=
      I1.laid (t' := s.toks) (fun b o e => Heap.get?_push_of_some _ e) (Nat.le_refl _) (show ObjOk X.prog X.w _ _ _ (.tup ys) from ⟨hz, its, r', IsTup.new _ _⟩)
    exact ⟨.ref h'.objs.size, _, I2, rfl, q _ (I1.hok.fresh (Nat.le_refl _))⟩
  · obtain ⟨its, r', pl, hz⟩ := I.tuple hq
    exact call_tuple_same pl ⟨.ref p, H, I, rfl, q⟩

/-! ### the call of a builtin's method: o.m(..) -/
/-- the value is of that builtin type -/
def tyV (K : PySem.W.Frag) (T : String) (x : V) (H : Hp) : Prop := match x with
  | .str _ => T = "str"
  | .int _ => T = "int"
  | .ref p => (T = "list" ∧ ∃ xs, SqL K H p xs) ∨ (T = "tuple" ∧ ∃ o, K.lookup p = some o ∧ o.cls = .type "tuple" ∧ o.dict = none) ∨
      (T = "dict" ∧ ((∃ kvs, H p = some (.dK kvs)) ∨ ∃ kvs, H p = some (.dT kvs))) ∨ (T = "set" ∧ ∃ S n, H p = some (.set S n))
  | _ => False
theorem tyV_is {pins : List (Addr × Obj)} {σ : St} {H : Hp} {s : Shared} {T : String} {x : V} {v : Value} (I : Inv X pins σ H s) (r : RelV x v) (ty : tyV X.K T x H) :
    s.TypeIs v T ∧ ∀ a, v = .ref a → ∃ ob, s.heap.get? a = some ob ∧ ob.dict = none := by
  cases x with
  | str z =>
    obtain ⟨t, rfl⟩ := r
    cases (show T = "str" from ty)
    exact ⟨typeIs_str s z t, fun _ e => nomatch e⟩
  | int i =>
    obtain ⟨t, rfl⟩ := r
    cases (show T = "int" from ty)
    exact ⟨typeIs_int s i t, fun _ e => nomatch e⟩
  | ref p =>
    cases r
    rcases ty with ⟨rfl, xs, hq⟩ | ⟨rfl, o, hk, hc, hd⟩ | ⟨rfl, hk⟩ | ⟨rfl, S, n, hk⟩
    · obtain ⟨its, _, pl, _⟩ := I.list hq
      refine ⟨pl.isList.typeIs, fun a e => ?_⟩
      cases e
      obtain ⟨o, n, e, c, hd, _⟩ := pl
      exact ⟨o, e, hd⟩
    · refine ⟨⟨o, I.kIn p o hk, hc⟩, fun a e => ?_⟩
      cases e
      exact ⟨o, I.kIn _ o hk, hd⟩
    · have z : ∃ o, s.heap.get? p = some o ∧ o.ExactDict := by
        rcases hk with ⟨kvs, hk⟩ | ⟨kvs, hk⟩
        · obtain ⟨_, _, _, _, o, _, _, e, ex, _⟩ := I.hok p _ hk
          exact ⟨o, e, ex⟩
        · obtain ⟨_, _, _, _, o, _, _, e, ex, _⟩ := I.hok p _ hk
          exact ⟨o, e, ex⟩
      obtain ⟨o, e, ex⟩ := z
      refine ⟨⟨o, e, ex.1⟩, fun a e2 => ?_⟩
      cases e2
      exact ⟨o, e, ex.2.1⟩
    · obtain ⟨o, _, _, _, e, ex, _⟩ := I.hok p _ hk
      refine ⟨⟨o, e, ex.1⟩, fun a e2 => ?_⟩
      cases e2
      exact ⟨o, e, ex.2.1⟩
  | _ => exact False.elim ty
def tBM0 (K : PySem.W.Frag) (T : String) (r : V → List V → Hp → VK → Prop) (to : TE) : TE := fun σ H Q => to σ H fun x H1 => tyV K T x H1 ∧ r x [] H1 Q
def tBM (K : PySem.W.Frag) (T : String) (r : V → List V → Hp → VK → Prop) (to : TE) (t : TA) : TE := fun σ H Q => to σ H fun x H1 => tyV K T x H1 ∧ t σ H1 fun xs H2 => r x xs H2 Q
variable {o e : Expr} {es : List Expr} {to : TE} {t : TA} {name : Str} {apos cpos : Pos} {T id : String} {r : V → List V → Hp → VK → Prop}
theorem pe_bm0 (pa : PlainAttrs T) (slot : Slot T name id) (hty : typeOf (.builtin id) = pure (.type "method_descriptor")) (hm : MtR X id r) (ho : PE X o to)
    (hbase : attributeBase o name X.env (eval o X.env) = eval o X.env := by rfl) (hline : (apos.endLine == cpos.line) = true := by rfl) : PE X (.Call (.Attribute o name apos) [] [] cpos) (tBM0 X.K T r to) := by
  intro pins s σ H Q I h
  refine wpAny_Call_method0_late hbase hline (thn (ho pins s σ H _ I h) fun v s1 ⟨x, H1, I1, r1, ty, q1⟩ => ?_)
  obtain ⟨h1, h2⟩ := tyV_is I1 r1 ty
  exact ⟨T, id, pa, slot, hty, h1, h2, Calls.callWith_builtin rfl (PySem.evalArgs_none (hm pins s1 σ H1 x [] v [] Q I1 r1 .nil q1))⟩
theorem pe_bm (pa : PlainAttrs T) (slot : Slot T name id) (hty : typeOf (.builtin id) = pure (.type "method_descriptor")) (hm : MtR X id r) (ho : PE X o to) (ha : PA X (e :: es) t)
    (hbase : attributeBase o name X.env (eval o X.env) = eval o X.env := by rfl)
    (hfew : ((backTo cpos (starEach (e :: es) X.env)).all (fun x => !x.1) && (backToKw cpos (keywordEach [] X.env)).all (fun x => x.1.isSome)
      && decide ((e :: es).length + ([] : List Keyword).length + (if ([] : List Keyword).isEmpty then 0 else 1) < 30)) = true := by rfl)
    (hline : (apos.endLine == cpos.line) = true := by rfl) (hs : starEach (e :: es) X.env = (false, eval e X.env) :: starEach es X.env := by rfl) (hplain : (backTo cpos (starEach es X.env)).any (·.1) = false := by rfl) :
    PE X (.Call (.Attribute o name apos) (e :: es) [] cpos) (tBM X.K T r to t) := by
  intro pins s σ H Q I h
  refine wpAny_Call_method_late hbase hfew hline rfl (thn (ho pins s σ H _ I h) fun v s1 ⟨x, H1, I1, r1, ty, q1⟩ => ?_)
  obtain ⟨h1, h2⟩ := tyV_is I1 r1 ty
  refine ⟨T, id, pa, slot, hty, h1, h2, ?_⟩
  have hA := ha cpos pins s1 σ H1 _ I1 q1
  rw [hs] at hA ⊢
  refine Calls.callWith_builtin (by show (false || (backTo cpos (starEach es X.env)).any (·.1)) = false; rw [hplain] <;> rfl) (Calls.evalArgs_plain ?_)
  exact thn hA fun us s2 ⟨vs, H2, I2, r2, q2⟩ => hm pins s2 σ H2 x vs v us Q I2 r1 r2 q2
/- xs.append(e), list.index on a module's tuple .. are MtR facts of 06m -/
end
end L2

namespace L2
open PySem PySem.Spec PyProof.Rows

def MtM (X : Cx) (id : String) (r : V → List V → Hp → VK → Prop) : Prop :=
  ∀ (pins : List (Addr × Obj)) (s : Shared) (σ : St) (H : Hp) (x : V) (xs : List V) (v : Value) (us : List Value) (Q : VK), Inv X pins σ H s → RelV x v → Vals xs us → r x xs H Q →
    wpAny (model X.prog X.w) X.A (call (.builtin id) (v :: us)) (EP X pins σ Q) X.xe s

/-! ### lists of values -/
theorem Vals.one : ∀ {x : V} {us : List Value}, Vals [x] us → ∃ u, us = [u] ∧ RelV x u
  | _, _, .cons r .nil => ⟨_, rfl, r⟩
theorem Vals.two : ∀ {x y : V} {us : List Value}, Vals [x, y] us → ∃ u v, us = [u, v] ∧ RelV x u ∧ RelV y v
  | _, _, _, .cons r (.cons q .nil) => ⟨_, _, rfl, r, q⟩
theorem Vals.zero : ∀ {us : List Value}, Vals [] us → us = []
  | _, .nil => rfl
section
variable {X : Cx} {pins : List (Addr × Obj)} {σ : St} {H : Hp} {s : Shared} {l b : Addr} {xs ys zs : List V}

/-! ### the two steps: a tracked list is rewritten, a new list is laid -/
theorem Inv.lset {its its' : List Value} {n : Nat} {f : Array Value → Array Value} {t' : Nat} (I : Inv X pins σ H s) (hH : H l = some (.lst xs))
    (e : s.heap.get? l = some { cls := .type "list", data := .seq its.toArray n }) (hf : f its.toArray = its'.toArray) (hv : Vals ys its') (hz : ys.length ≤ sizeLine) :
    Inv X pins σ (upd H l (.lst ys)) { s with heap := s.heap.update l (Obj.mapSeq f), toks := t' } := by
  have q := PySem.IsL.update e f
  rw [hf] at q
  refine I.write (x := l) (e := l) (by rw [hH]; exact trivial) (.inl rfl) (fun b' u hb hu => (Heap.get?_update_other s.heap (Obj.mapSeq f) (Ne.symm hb)).trans hu) ⟨_, q⟩ ?_
  exact ⟨hz, its', _, hv, q⟩
theorem Inv.lnew {its : List Value} {t' : Nat} (I : Inv X pins σ H s) (hv : Vals ys its) (hz : ys.length ≤ sizeLine) :
    Inv X pins σ (upd H s.heap.objs.size (.lst ys)) { s with heap := s.heap.push { cls := .type "list", data := .seq its.toArray }, toks := t' } :=
  I.laid (fun _ _ q => Heap.get?_push_of_some _ q) (Nat.le_refl _) ⟨hz, its, 0, hv, Heap.get?_push_size _ rfl⟩
theorem Inv.fresh (I : Inv X pins σ H s) : H s.heap.objs.size = none := I.hok.fresh (Nat.le_refl _)
theorem Inv.lstM (I : Inv X pins σ H s) (hH : H l = some (.lst xs)) : xs.length ≤ sizeLine ∧ ∃ (its : List Value) (n : Nat), Vals xs its ∧ xs.length = its.length ∧ s.heap.get? l = some { cls := .type "list", data := .seq its.toArray n } := by
  obtain ⟨z, its, n, r, e⟩ := I.hok l _ hH
  exact ⟨z, its, n, r, r.length, e⟩

end

section
variable {X : Cx}

/-! ### methods -/
def rAppend : V → List V → Hp → VK → Prop := fun x vs H Q => ∃ l xs y, x = .ref l ∧ vs = [y] ∧ H l = some (.lst xs) ∧ xs.length < sizeLine ∧ Q .non (upd H l (.lst (xs ++ [y])))
theorem mt_append : MtM X "list.append" rAppend := by
  intro pins s σ H x vs v us Q I rx rv h
  obtain ⟨l, xs, y, rfl, rfl, hH, hz, q⟩ := h
  cases rx
  obtain ⟨u, rfl, ru⟩ := rv.one
  obtain ⟨z, its, n, r, hl, e⟩ := I.lstM hH
  refine call_meets F.slot_list_append ⟨_, e, rfl⟩ F.entry_list_append (F.args_list_append_2 _ _) (PySem.list_append l its.toArray n u (by rw [List.size_toArray]; omega)) ⟨e, ?_⟩
  refine ⟨.non, _, I.lset (its' := its ++ [u]) hH e (by simp) (r.append (.cons ru .nil)) ?_, rfl, q⟩
  rw [List.length_append, List.length_singleton]
  omega

def rClear : V → List V → Hp → VK → Prop := fun x vs H Q => ∃ l xs, x = .ref l ∧ vs = [] ∧ H l = some (.lst xs) ∧ Q .non (upd H l (.lst []))
theorem mt_clear : MtM X "list.clear" rClear := by
  intro pins s σ H x vs v us Q I rx rv h
  obtain ⟨l, xs, rfl, rfl, hH, q⟩ := h
  cases rx
  have hus := rv.zero
  subst hus
  obtain ⟨z, its, n, r, hl, e⟩ := I.lstM hH
  refine call_meets F.slot_list_clear ⟨_, e, rfl⟩ F.entry_list_clear (F.args_list_clear_1 _) (AutoSeq1.list_clear_list_0 l its.toArray n (by rw [List.size_toArray]; omega)) ⟨e, ?_⟩
  exact ⟨.non, _, I.lset (its' := []) (ys := []) hH e rfl .nil (Nat.zero_le _), rfl, q⟩

/-! ### list + list, list += list, list * int -/
def rCat : R2 := fun x y H Q => ∃ l b xs zs, x = .ref l ∧ y = .ref b ∧ H l = some (.lst xs) ∧ H b = some (.lst zs) ∧ xs.length + zs.length ≤ sizeLine ∧ ∀ p, H p = none → Q (.ref p) (upd H p (.lst (xs ++ zs)))
theorem op_cat : OpR X (binaryOp .Add) rCat := by
  intro pins s σ H x y v u Q I rx ry h
  obtain ⟨l, b, xs, zs, rfl, rfl, hH, hB, hz, q⟩ := h
  cases rx
  cases ry
  obtain ⟨z, its, n, r, hl, e⟩ := I.lstM hH
  obtain ⟨z2, its2, n2, r2, hl2, e2⟩ := I.lstM hB
  refine PySem.P.add_list e e2 ?_ (by rw [List.size_toArray, List.size_toArray]; omega)
  have ea : its.toArray ++ its2.toArray = (its ++ its2).toArray := by simp
  rw [ea]
  exact ⟨.ref _, _, I.lnew (t' := s.toks) (r.append r2) (by rw [List.length_append]; omega), rfl, q _ I.fresh⟩
/-! ### del xs[i] -/
end

/-! ### xs[a:b] = ys -/
section
variable {prog : Program} {w : World} {A : Around} {E : Value → Shared → Prop} {s : Shared}
end

section
variable {X : Cx}
end
end L2

namespace L2
open PySem PySem.Spec PyProof.Rows

/-! ### lists of pairs as tables -/
section
variable {κ : Type} [DecidableEq κ]
def valV (kvs : List (κ × V)) (k : κ) : Option V := (kvs.find? fun kv => decide (kv.1 = k)).map (·.2)
/-- in its place, or at the end -/
def putK (kvs : List (κ × V)) (k : κ) (v : V) : List (κ × V) :=
  if (kvs.any fun kv => decide (kv.1 = k)) = true then kvs.map (fun kv => if kv.1 = k then (kv.1, v) else kv) else kvs ++ [(k, v)]
theorem valV_pos {p : κ × V} {r : List (κ × V)} {k : κ} (e : p.1 = k) : valV (p :: r) k = some p.2 := by simp [valV, List.find?_cons, e]
theorem valV_neg {p : κ × V} {r : List (κ × V)} {k : κ} (e : ¬ p.1 = k) : valV (p :: r) k = valV r k := by simp [valV, List.find?_cons, e]
theorem valV_any (k : κ) : ∀ kvs : List (κ × V), (kvs.any fun kv => decide (kv.1 = k)) = (valV kvs k).isSome
  | [] => rfl
  | p :: r => by
    rw [List.any_cons]
    by_cases e : p.1 = k
    · simp only [valV_pos e, decide_eq_true e, Bool.true_or, Option.isSome_some]
    · rw [valV_neg e, decide_eq_false e, Bool.false_or]; exact valV_any k r
theorem length_putK (kvs : List (κ × V)) (k : κ) (v : V) : (putK kvs k v).length ≤ kvs.length + 1 := by
  unfold putK
  split
  · rw [List.length_map]; omega
  · rw [List.length_append, List.length_cons, List.length_nil]; omega
theorem RelO.isSome_eq {o : Option V} {u : Option Value} (r : RelO o u) : o.isSome = u.isSome := by
  cases o with
  | none => cases u with
    | none => rfl
    | some _ => exact (show False from r).elim
  | some _ => cases u with
    | none => exact (show False from r).elim
    | some _ => rfl
theorem RelO.getD {o : Option V} {u : Option Value} {d : V} {d' : Value} (r : RelO o u) (rd : RelV d d') : RelV (o.getD d) (u.getD d') := by
  cases o with
  | none => cases u with
    | none => exact rd
    | some _ => exact (show False from r).elim
  | some _ => cases u with
    | none => exact (show False from r).elim
    | some _ => exact r

/-- raw tables of the same keys -/
theorem KV.val {kvs : List (κ × V)} {vs : List (κ × Value)} (r : KV kvs vs) (k : κ) : RelO (valV kvs k) (valueAt vs k) := by
  unfold KV at r
  induction r with
  | nil => exact True.intro
  | @cons p q ps qs h t ih =>
    obtain ⟨h1, h2⟩ := h
    by_cases e : p.1 = k
    · have e' : q.1 = k := h1.symm.trans e
      have b : valueAt (q :: qs) k = some q.2 := by simp [valueAt, List.find?_cons, e']
      rw [valV_pos e, b]; exact h2
    · have e' : ¬ q.1 = k := fun z => e (h1.trans z)
      have b : valueAt (q :: qs) k = valueAt qs k := by simp [valueAt, List.find?_cons, e']
      rw [valV_neg e, b]; exact ih
theorem KV.any {kvs : List (κ × V)} {vs : List (κ × Value)} (r : KV kvs vs) (k : κ) : (kvs.any fun kv => decide (kv.1 = k)) = vs.any fun kv => decide (kv.1 = k) := by
  unfold KV at r
  induction r with
  | nil => rfl
  | cons h t ih => rw [List.any_cons, List.any_cons, ih, h.1]
theorem KV.repl {kvs : List (κ × V)} {vs : List (κ × Value)} (r : KV kvs vs) (k : κ) {y : V} {u : Value} (ry : RelV y u) :
    KV (kvs.map fun kv => if kv.1 = k then (kv.1, y) else kv) (vs.map fun kv => if kv.1 = k then (kv.1, u) else kv) := by
  unfold KV at r ⊢
  induction r with
  | nil => exact .nil
  | @cons p q ps qs h t ih =>
    rw [List.map_cons, List.map_cons]
    refine .cons ?_ ih
    obtain ⟨h1, h2⟩ := h
    by_cases e : p.1 = k
    · rw [if_pos e, if_pos (h1.symm.trans e)]; exact ⟨h1, ry⟩
    · rw [if_neg e, if_neg (fun z => e (h1.trans z))]; exact ⟨h1, h2⟩
theorem KV.put {kvs : List (κ × V)} {vs : List (κ × Value)} (r : KV kvs vs) (k : κ) {y : V} {u : Value} (ry : RelV y u) : KV (putK kvs k y) (stored vs k u) := by
  unfold putK stored
  rw [r.any k]
  by_cases e : (vs.any fun kv => decide (kv.1 = k)) = true
  · rw [if_pos e, if_pos e]; exact r.repl k ry
  · rw [if_neg e, if_neg e]; exact Paired.snoc r ⟨rfl, ry⟩
theorem KV.keys {kvs : List (κ × V)} {vs : List (κ × Value)} (r : KV kvs vs) : kvs.map (·.1) = vs.map (·.1) := by
  unfold KV at r
  induction r with
  | nil => rfl
  | cons h t ih => rw [List.map_cons, List.map_cons, ih, h.1]
theorem KV.length {kvs : List (κ × V)} {vs : List (κ × Value)} (r : KV kvs vs) : kvs.length = vs.length := Paired.length r
end


/-! ### a tracked dict, its keys ints and texts or tuples of these -/
theorem kV_is {P : Program} {w : World} {k : Key} {u : Value} (r : RelV (kV k) u) : (mixKind P w).is k u = true := by
  cases k with
  | inl i => obtain ⟨t, e⟩ := (show ∃ t, u = Value.int i t from r); subst e; exact mixKind_int P w i t
  | inr x => obtain ⟨t, e⟩ := (show ∃ t, u = Value.str x t from r); subst e; exact mixKind_str P w x t
theorem items_are {P : Program} {w : World} : ∀ {ks : List Key} {us : List Value}, Vals (ks.map kV) us → ItemsAre (mixKind P w) ks us
  | [], _, r => by rw [List.map_nil] at r; cases r; exact .nil
  | k :: ks, _, r => by
    rw [List.map_cons] at r
    cases r with
    | cons h t => exact .cons (kV_is h) (items_are t)

/-- raw entries of a dict with tuple keys -/
abbrev KT (H : Hp) : List (List Key × V) → List (List Key × Addr × Value) → Prop := Paired fun p q => p.1 = q.1 ∧ H q.2.1 = some (.tup (p.1.map kV)) ∧ RelV p.2 q.2.2
theorem KT.val {H : Hp} {kvs : List (List Key × V)} {xs : List (List Key × Addr × Value)} (r : KT H kvs xs) (k : List Key) : RelO (valV kvs k) ((atKey xs k).map (·.2)) := by
  induction r with
  | nil => exact True.intro
  | @cons p q ps qs h t ih =>
    obtain ⟨h1, _, h2⟩ := h
    by_cases e : p.1 = k
    · have e' : q.1 = k := h1.symm.trans e
      have b : atKey (q :: qs) k = some q.2 := by simp [atKey, List.find?_cons, e']
      rw [valV_pos e, b]; exact h2
    · have e' : ¬ q.1 = k := fun z => e (h1.trans z)
      have b : atKey (q :: qs) k = atKey qs k := by simp [atKey, List.find?_cons, e']
      rw [valV_neg e, b]; exact ih
theorem KT.repl {H : Hp} {kvs : List (List Key × V)} {xs : List (List Key × Addr × Value)} (r : KT H kvs xs) (k : List Key) {y : V} {u : Value} (ry : RelV y u) :
    KT H (kvs.map fun kv => if kv.1 = k then (kv.1, y) else kv) (xs.map (putAt k u)) := by
  induction r with
  | nil => exact .nil
  | @cons p q ps qs h t ih =>
    rw [List.map_cons, List.map_cons]
    refine .cons ?_ ih
    obtain ⟨h1, h2, h3⟩ := h
    unfold putAt
    by_cases e : p.1 = k
    · rw [if_pos e, if_pos (h1.symm.trans e)]; exact ⟨h1, h2, ry⟩
    · rw [if_neg e, if_neg (fun z => e (h1.trans z))]; exact ⟨h1, h2, h3⟩
theorem KT.put {H : Hp} {kvs : List (List Key × V)} {xs : List (List Key × Addr × Value)} (r : KT H kvs xs) (k : List Key) {b : Addr} {y : V} {u : Value} (hb : H b = some (.tup (k.map kV))) (ry : RelV y u) :
    KT H (putK kvs k y) (storedH xs k b u) := by
  have e : (kvs.any fun kv => decide (kv.1 = k)) = (atKey xs k).isSome := by
    rw [valV_any, (r.val k).isSome_eq, Option.isSome_map]
  unfold putK storedH
  rw [e]
  by_cases q : (atKey xs k).isSome = true
  · rw [if_pos q, if_pos q]; exact r.repl k ry
  · rw [if_neg q, if_neg q]; exact Paired.snoc r ⟨rfl, hb, ry⟩
theorem KT.keeps {H H' : Hp} {kvs : List (List Key × V)} {xs : List (List Key × Addr × Value)} (r : KT H kvs xs) (ht : ∀ b ys, H b = some (.tup ys) → H' b = some (.tup ys)) : KT H' kvs xs :=
  Paired.mapP r fun _ _ z => ⟨z.1, ht _ _ z.2.1, z.2.2⟩

section
variable {P : Program} {w : World} {H : Hp} {h : Heap} {a : Addr}
theorem rd_of {u : HO} (ok : HOk P w H h) (e : Rd H a u) : ObjOk P w H h a u := e.ok ok
theorem dk_rd {kvs : List (Key × V)} (ok : HOk P w H h) (e : Rd H a (.dK kvs)) : kvs.length ≤ sizeLine ∧ (a == sysModules) = false ∧ ∃ vs, KV kvs vs ∧ h.DictOf (mixKind P w) a vs :=
  show ObjOk P w H h a (.dK kvs) from rd_of ok e
theorem dk_of {kvs : List (Key × V)} (ok : HOk P w H h) (e : H a = some (.dK kvs)) : kvs.length ≤ sizeLine ∧ (a == sysModules) = false ∧ ∃ vs, KV kvs vs ∧ h.DictOf (mixKind P w) a vs := dk_rd ok (.inl e)
/-- a tracked tuple of ints and texts is a key -/
theorem key_of {ks : List Key} (ok : HOk P w H h) (e : H a = some (.tup (ks.map kV))) : (tupleKind (mixKind P w)).is h ks a := by
  obtain ⟨_, its, r, o, h1, h2, n, h3⟩ := (show ObjOk P w H h a (.tup (ks.map kV)) from ok a _ e)
  exact ⟨o, its.toArray, n, h1, h2, h3, by simpa using items_are r⟩
theorem dt_rd {kvs : List (List Key × V)} (ok : HOk P w H h) (e : Rd H a (.dT kvs)) : kvs.length ≤ sizeLine ∧ (a == sysModules) = false ∧
    ∃ xs, KT H kvs xs ∧ h.DictOfH (tupleKind (mixKind P w)) a xs := by
  obtain ⟨z, y, xs, r, o, es, ep, h1, h2, h3, h4, h5⟩ := (show ObjOk P w H h a (.dT kvs) from rd_of ok e)
  refine ⟨z, y, xs, r, o, es, ep, h1, h2, h3, h4, fun x hx => ?_, h5⟩
  have all : ∀ {l : List (List Key × V)} {m : List (List Key × Addr × Value)}, KT H l m → ∀ x ∈ m, (tupleKind (mixKind P w)).is h x.1 x.2.1 := by
    intro l m q
    induction q with
    | nil => intro x hx; exact nomatch hx
    | @cons p q ps qs hq t ih =>
      intro x hx
      rcases List.mem_cons.mp hx with e | hx
      · subst e
        exact key_of ok (by rw [← hq.1]; exact hq.2.1)
      · exact ih x hx
  exact all r x hx
theorem dt_of {kvs : List (List Key × V)} (ok : HOk P w H h) (e : H a = some (.dT kvs)) : kvs.length ≤ sizeLine ∧ (a == sysModules) = false ∧
    ∃ xs, KT H kvs xs ∧ h.DictOfH (tupleKind (mixKind P w)) a xs := dt_rd ok (.inl e)
end

/-- what the dict at a holds at the key y -/
def DGet (H : Hp) (a : Addr) (y : V) (r : Option V) : Prop :=
  (∃ kvs k, Rd H a (.dK kvs) ∧ y = kV k ∧ r = valV kvs k) ∨ ∃ kvs k b, Rd H a (.dT kvs) ∧ y = .ref b ∧ H b = some (.tup (k.map kV)) ∧ r = valV kvs k
/-- the heap behind a[y] = v -/
def DPut (H : Hp) (a : Addr) (y v : V) (H' : Hp) : Prop :=
  (∃ kvs k, H a = some (.dK kvs) ∧ y = kV k ∧ kvs.length < sizeLine ∧ H' = upd H a (.dK (putK kvs k v))) ∨
  ∃ kvs k b, H a = some (.dT kvs) ∧ y = .ref b ∧ H b = some (.tup (k.map kV)) ∧ kvs.length < sizeLine ∧ H' = upd H a (.dT (putK kvs k v))
theorem DGet.k {H : Hp} {a : Addr} {kvs : List (Key × V)} {k : Key} (e : H a = some (.dK kvs)) : DGet H a (kV k) (valV kvs k) := .inl ⟨kvs, k, .inl e, rfl, rfl⟩
theorem DGet.t {H : Hp} {a b : Addr} {kvs : List (List Key × V)} {k : List Key} (e : H a = some (.dT kvs)) (eb : H b = some (.tup (k.map kV))) : DGet H a (.ref b) (valV kvs k) := .inr ⟨kvs, k, b, .inl e, rfl, eb, rfl⟩
theorem DPut.k {H : Hp} {a : Addr} {kvs : List (Key × V)} {k : Key} {v : V} (e : H a = some (.dK kvs)) (hl : kvs.length < sizeLine) : DPut H a (kV k) v (upd H a (.dK (putK kvs k v))) := .inl ⟨kvs, k, e, rfl, hl, rfl⟩
theorem DPut.t {H : Hp} {a b : Addr} {kvs : List (List Key × V)} {k : List Key} {v : V} (e : H a = some (.dT kvs)) (eb : H b = some (.tup (k.map kV))) (hl : kvs.length < sizeLine) :
    DPut H a (.ref b) v (upd H a (.dT (putK kvs k v))) := .inr ⟨kvs, k, b, e, rfl, eb, hl, rfl⟩


section
variable {X : Cx} {pins : List (Addr × Obj)} {σ : St} {H : Hp} {s : Shared} {a : Addr} {y v : V} {u r : Value} {o : Option V} {A : Around} {E : Value → Shared → Prop}

theorem Inv.big (I : Inv X pins σ H s) : sysModules < s.heap.objs.size := by
  have h : mainGlobals < s.heap.objs.size := (I.mod.glob.keeps I.bk).lt
  exact Nat.lt_trans (by decide) h

/-- d[y], there -/
theorem d_getItem {Q : Value → Shared → Prop} (hu : A.units + 1 < cLine) (I : Inv X pins σ H s) (g : DGet H a y (some v)) (ry : RelV y u) (h : ∀ w' s', Inv X pins σ H s' → RelV v w' → Q w' s') :
    wpAny (model X.prog X.w) A (getItem (.ref a) u) Q E s := by
  rcases g with ⟨kvs, k, e, ey, l⟩ | ⟨kvs, k, b, e, ey, eb, l⟩
  · subst ey
    obtain ⟨z, hd, vs, rel, dd⟩ := dk_rd I.hok e
    obtain ⟨w', hw, rw'⟩ := RelO.some_of (v := v) (o := valueAt vs k) (by rw [l]; exact rel.val k)
    exact wpAny_getItem_of (kV_is ry) dd.mapOf hw (h w' _ (I.tok _) rw')
  · subst ey
    cases (show u = Value.ref b from ry)
    obtain ⟨z, hd, xs, rel, dd⟩ := dt_rd I.hok e
    obtain ⟨w', hw, rw'⟩ := RelO.some_of (v := v) (o := (atKey xs k).map (·.2)) (by rw [l]; exact rel.val k)
    obtain ⟨p, hp, hp2⟩ := Option.map_eq_some_iff.mp hw
    refine wpAny_getItem_heap (tupleKind_room_in1 hu) (key_of I.hok eb) dd hp ?_
    rw [hp2]
    exact h w' _ (I.tok _) rw'
/-- y in d -/
theorem d_in {Q : Value → Shared → Prop} (hu : A.units + 1 < cLine) (I : Inv X pins σ H s) (g : DGet H a y o) (ry : RelV y u) (h : ∀ s', Inv X pins σ H s' → Q (.bool o.isSome) s') :
    wpAny (model X.prog X.w) A (compareOp .In u (.ref a)) Q E s := by
  rcases g with ⟨kvs, k, e, ey, l⟩ | ⟨kvs, k, b, e, ey, eb, l⟩
  · subst ey
    obtain ⟨z, hd, vs, rel, dd⟩ := dk_rd I.hok e
    refine wpAny_in_of (kV_is ry) hd dd.mapOf ?_
    rw [← (rel.val k).isSome_eq, ← l]
    exact h _ (I.tok _)
  · subst ey
    cases (show u = Value.ref b from ry)
    obtain ⟨z, hd, xs, rel, dd⟩ := dt_rd I.hok e
    refine wpAny_in_heap (tupleKind_room_in1 hu) (key_of I.hok eb) hd dd ?_
    have q := (rel.val k).isSome_eq
    rw [Option.isSome_map] at q
    rw [← q, ← l]
    exact h _ (I.tok _)
theorem d_notIn {Q : Value → Shared → Prop} (hu : A.units + 1 < cLine) (I : Inv X pins σ H s) (g : DGet H a y o) (ry : RelV y u) (h : ∀ s', Inv X pins σ H s' → Q (.bool (!o.isSome)) s') :
    wpAny (model X.prog X.w) A (compareOp .NotIn u (.ref a)) Q E s := by
  rcases g with ⟨kvs, k, e, ey, l⟩ | ⟨kvs, k, b, e, ey, eb, l⟩
  · subst ey
    obtain ⟨z, hd, vs, rel, dd⟩ := dk_rd I.hok e
    refine wpAny_notIn_of (kV_is ry) hd dd.mapOf ?_
    rw [← (rel.val k).isSome_eq, ← l]
    exact h _ (I.tok _)
  · subst ey
    cases (show u = Value.ref b from ry)
    obtain ⟨z, hd, xs, rel, dd⟩ := dt_rd I.hok e
    refine wpAny_notIn_heap (tupleKind_room_in1 hu) (key_of I.hok eb) hd dd ?_
    have q := (rel.val k).isSome_eq
    rw [Option.isSome_map] at q
    rw [← q, ← l]
    exact h _ (I.tok _)
/-- a dict's object is replaced -/
theorem d_write {h' : Heap} {t' : Nat} {ob : HO} (I : Inv X pins σ H s) (mu : Mut (H a)) (hs : Heap.SameBut a s.heap h') (he : ∃ q, h'.get? a = some q) (new : ObjOk X.prog X.w (upd H a ob) h' a ob) :
    Inv X pins σ (upd H a ob) { s with heap := h', toks := t' } :=
  I.write (x := a) (e := a) mu (.inl rfl) (fun b q hb z => (hs.2 b hb).trans z) he new
theorem dk_new {P : Program} {w : World} {H' : Hp} {h' : Heap} {kvs : List (Key × V)} {vs : List (Key × Value)} (z : kvs.length ≤ sizeLine) (hd : (a == sysModules) = false) (rel : KV kvs vs) (dd : h'.DictOf (mixKind P w) a vs) :
    ObjOk P w H' h' a (.dK kvs) := ⟨z, hd, vs, rel, dd⟩
/-- d[y] = v -/
theorem d_setItem {H' : Hp} {Q : Unit → Shared → Prop} (hu : A.units + 1 < cLine) (I : Inv X pins σ H s) (g : DPut H a y v H') (ry : RelV y u) (rv : RelV v r) (h : ∀ s', Inv X pins σ H' s' → Q () s') :
    wpAny (model X.prog X.w) A (setItem (.ref a) u r) Q E s := by
  rcases g with ⟨kvs, k, e, ey, l, eH⟩ | ⟨kvs, k, b, e, ey, eb, l, eH⟩
  · subst ey eH
    obtain ⟨z, hd, vs, rel, dd⟩ := dk_of I.hok e
    have hz : vs.length ≤ sizeLine := by rw [← rel.length]; exact z
    have hl : (putK kvs k v).length ≤ sizeLine := by have := length_putK kvs k v; omega
    refine wpAny_setItem_pairs (hsz := hz) (kV_is ry) dd fun h' dd' hs => h _ ?_
    have he : ∃ q, h'.get? a = some q := let ⟨q, _, _, hq, _⟩ := dd'; ⟨q, hq⟩
    exact d_write I (by rw [e]; exact True.intro) hs he (dk_new hl hd (rel.put k rv) dd')
  · subst ey eH
    cases (show u = Value.ref b from ry)
    obtain ⟨z, hd, xs, rel, dd⟩ := dt_of I.hok e
    have hz : xs.length ≤ sizeLine := by rw [← Paired.length rel]; exact z
    have hl : (putK kvs k v).length ≤ sizeLine := by have := length_putK kvs k v; omega
    refine wpAny_setItem_heap (hsz := hz) (tupleKind_room_in1 hu) (key_of I.hok eb) dd fun h' dd' hs => h _ ?_
    obtain ⟨q, es, ep, hq, h2, h3, h4, _, h5⟩ := dd'
    refine d_write I (by rw [e]; exact True.intro) hs ⟨q, hq⟩ ⟨hl, hd, _, (rel.put k eb rv).keeps fun c ys ec => ?_, q, es, ep, hq, h2, h3, h4, h5⟩
    rw [upd_ne (ne_of ec e (fun z => nomatch z))]
    exact ec
end

section
variable {X : Cx} {pins : List (Addr × Obj)} {σ : St} {H : Hp} {s : Shared} {a : Addr} {kvs : List (Key × V)} {k : Key} {u : Value} {A : Around} {E : Value → Shared → Prop}
/-- len(d) -/
theorem d_len {Q : Value → Shared → Prop} (I : Inv X pins σ H s) (e : Rd H a (.dK kvs)) (h : ∀ t s', Inv X pins σ H s' → Q (.int kvs.length t) s') : wpAny (model X.prog X.w) A (call (.builtin "len") [.ref a]) Q E s := by
  obtain ⟨z, hd, vs, rel, dd⟩ := dk_rd I.hok e
  refine call_len_dict hd dd (by rw [← rel.length]; rw [sizeLine_eq] at z; omega) ?_
  rw [← rel.length]
  exact h _ _ (I.tok _)
end


/-! ### readings and rules -/
/-- the element of a subscription, not a slice -/
def NoSl (i : Expr) : Prop := ∀ ov iv, subscripted i false ov iv = operate [ov, iv] (getItem ov iv)
theorem subD_of {prog : Program} {w : World} {A : Around} {E : Value → Shared → Prop} {s : Shared} {env : Env} {value slice : Expr} {pos : Pos} {T id : String} {Q : Value → Shared → Prop}
    (hl : typeLookup (.type T) "__getitem__" = pure (some (.builtin id))) (hs : NoSl slice)
    (h : wpAny (model prog w) A (eval value env) (fun o s₁ => wpAny (model prog w) A (eval slice env) (fun i s₂ => s₂.TypeIs o T ∧ wpAny (model prog w) A (getItem o i) Q E s₂) E s₁) E s) :
    wpAny (model prog w) A (eval (.Subscript value slice pos) env) Q E s := by
  refine Subscript_ (wpAny_mono h (fun o s₁ h₁ => wpAny_mono h₁ (fun i s₂ h₂ => ?_) fun _ _ x => x) fun _ _ x => x)
  obtain ⟨hT, h₂⟩ := h₂
  unfold subscriptTail
  refine wpAny_bind ?_
  rw [getitemInPython_of_ne hT.not_modules]
  refine wpAny_bind (wpAny_specialOf hT hl ?_)
  have fin : wpAny (model prog w) A (subscripted slice false o i) (fun r s₃ => wpAny (model prog w) A (letTemporaryGo value o r >>= fun _ => pure r) Q E s₃) E s₂ := by
    rw [hs o i]
    exact wpAny_operating (wpAny_mono h₂ (fun r s₃ h₃ => wpAny_bind (wpAny_letTemporaryGo (wpAny_pure h₃))) fun _ _ x => x)
  first
    | exact wpAny_pure (wpAny_bind fin)
    | exact wpAny_bind (wpAny_pure (wpAny_bind fin))
    | exact wpAny_bind fin

theorem dict_typeIs {X : Cx} {pins : List (Addr × Obj)} {σ : St} {H : Hp} {s : Shared} {a : Addr} {y : V} {o : Option V} (I : Inv X pins σ H s) (g : DGet H a y o) : s.TypeIs (.ref a) "dict" := by
  rcases g with ⟨kvs, k, e, _, _⟩ | ⟨kvs, k, b, e, _, _, _⟩
  · obtain ⟨_, _, vs, _, dd⟩ := dk_rd I.hok e
    exact dd.typeIs
  · obtain ⟨_, _, xs, _, dd⟩ := dt_rd I.hok e
    exact dd.typeIs
/-- d[y] -/
def tDGet (td ty : TE) : TE := fun σ H Q => td σ H fun x H1 => ty σ H1 fun y H2 => ∃ a v, x = .ref a ∧ DGet H2 a y (some v) ∧ Q v H2
/-- y in d, y not in d -/
def tDIn (ty td : TE) : TE := fun σ H Q => ty σ H fun y H1 => td σ H1 fun x H2 => ∃ a o, x = .ref a ∧ DGet H2 a y o ∧ Q (.bl o.isSome) H2
def tDNotIn (ty td : TE) : TE := fun σ H Q => ty σ H fun y H1 => td σ H1 fun x H2 => ∃ a o, x = .ref a ∧ DGet H2 a y o ∧ Q (.bl (!o.isSome)) H2
/-- d[y] = v -/
def sDPut (td ty tv : TE) : TS := fun D σ H => tv σ H fun v H1 => td σ H1 fun x H2 => ty σ H2 fun y H3 => ∃ a H4, x = .ref a ∧ DPut H3 a y v H4 ∧ D.nx σ H4
section
variable {X : Cx} {o i e value : Expr} {pos pos' tpos : Pos} {td ty tv : TE}
theorem pe_dget (hu : X.A.units + 1 < cLine) (ho : PE X o td) (hi : PE X i ty) (hs : NoSl i) : PE X (.Subscript o i pos) (tDGet td ty) := by
  intro pins s σ H Q I h
  refine subD_of PySem.F.slot_dict_getitem.lookup hs (thn (ho pins s σ H _ I h) fun u s1 ⟨x, H1, I1, rx, q1⟩ => thn (hi pins s1 σ H1 _ I1 q1) fun iv s2 ⟨y, H2, I2, ry, a, v, ex, g, q2⟩ => ?_)
  subst ex
  obtain rfl : u = Value.ref a := rx
  exact ⟨dict_typeIs I2 g, d_getItem hu I2 g ry fun w' s3 I3 rw' => ⟨v, H2, I3, rw', q2⟩⟩
theorem pc_din (hu : X.A.units + 1 < cLine) (hi : PE X i ty) (ho : PE X o td) : PC X .In i o (tDIn ty td) := by
  intro pins s σ H Q I h
  refine thn (hi pins s σ H _ I h) fun iv s1 ⟨y, H1, I1, ry, q1⟩ => thn (ho pins s1 σ H1 _ I1 q1) fun u s2 ⟨x, H2, I2, rx, a, ov, ex, g, q2⟩ => ?_
  subst ex
  obtain rfl : u = Value.ref a := rx
  exact d_in hu I2 g ry fun s3 I3 => ⟨.bl ov.isSome, H2, I3, rfl, q2⟩
theorem pc_dnotin (hu : X.A.units + 1 < cLine) (hi : PE X i ty) (ho : PE X o td) : PC X .NotIn i o (tDNotIn ty td) := by
  intro pins s σ H Q I h
  refine thn (hi pins s σ H _ I h) fun iv s1 ⟨y, H1, I1, ry, q1⟩ => thn (ho pins s1 σ H1 _ I1 q1) fun u s2 ⟨x, H2, I2, rx, a, ov, ex, g, q2⟩ => ?_
  subst ex
  obtain rfl : u = Value.ref a := rx
  exact d_notIn hu I2 g ry fun s3 I3 => ⟨.bl (!ov.isSome), H2, I3, rfl, q2⟩
theorem ps_dput (hu : X.A.units + 1 < cLine) (ho : PE X o td) (hi : PE X i ty) (hv : PE X value tv) (hs : swapsWith value (some (.Subscript o i pos')) pos.line X.env = pure false) :
    PS X (.Assign [.Subscript o i pos'] value pos) (sDPut td ty tv) := by
  intro pins s σ H D I h
  refine wpAny_Assign_Subscript (thn (hv pins s σ H _ I h) fun r s1 ⟨v, H1, I1, rv, q1⟩ => thn (ho pins s1 σ H1 _ I1 q1) fun u s2 ⟨x, H2, I2, rx, q2⟩ => thn (hi pins s2 σ H2 _ I2 q2) fun iv s3 ⟨y, H3, I3, ry, a, H4, ex, g, q3⟩ => ?_) hs
  subst ex
  obtain rfl : u = Value.ref a := rx
  exact d_setItem hu I3 g ry rv fun s4 I4 => ⟨σ, H4, I4, q3⟩
end


/-! ### displays -/
theorem dk_empty {P : Program} {w : World} {H : Hp} (h : Heap) (hb : sysModules < h.objs.size) : ObjOk P w H (h.push { cls := .type "dict", data := .dict #[] }) h.objs.size (.dK []) :=
  ⟨Nat.zero_le _, beq_eq_false_iff_ne.mpr (Ne.symm (Nat.ne_of_lt hb)), [], .nil, Heap.DictOf.new h⟩
/-- {}, to be a dict of the kind that is wanted -/
def tDNewK : TE := fun _ H Q => ∀ p, H p = none → Q (.ref p) (upd H p (.dK []))
section
variable {X : Cx} {pos : Pos}
theorem pe_dnewK : PE X (.Dict [] [] pos) tDNewK := fun pins s σ H Q I h =>
  wpAny_Dict_empty ⟨.ref s.heap.objs.size, _, I.laid (a := s.heap.objs.size) (o := .dK []) (t' := s.toks) (fun _ _ q => Heap.get?_push_of_some _ q) (Nat.le_refl _) (dk_empty s.heap I.big), rfl, h _ (I.hok.fresh (Nat.le_refl _))⟩
end

/-! ### methods -/
section
variable {X : Cx} {pins : List (Addr × Obj)} {σ : St} {H : Hp} {s : Shared} {a : Addr} {y d : V} {u r : Value} {o : Option V} {A : Around} {E : Value → Shared → Prop}
end

section
variable {X : Cx} {o e f : Expr} {apos cpos : Pos} {td ty tx : TE}
end

/-! ### dict(d): a copy -/
section
variable {X : Cx} {pins : List (Addr × Obj)} {σ : St} {H : Hp} {s : Shared} {a : Addr} {kvs : List (Key × V)} {A : Around} {E : Value → Shared → Prop}
theorem d_copyOf {Q : Value → Shared → Prop} (I : Inv X pins σ H s) (e : Rd H a (.dK kvs)) (h : ∀ p s', H p = none → Inv X pins σ (upd H p (.dK kvs)) s' → Q (.ref p) s') : wpAny (model X.prog X.w) A (call (.type "dict") [.ref a]) Q E s := by
  obtain ⟨z, hd, vs, rel, dd⟩ := dk_rd I.hok e
  refine kt_call_dict hd dd (by rw [← rel.length]; exact z) fun h' dd' hs => ?_
  refine h _ _ (I.hok.fresh (Nat.le_refl _)) (I.laid (a := s.heap.objs.size) (o := .dK kvs) (t' := s.toks) (fun b q hq => ?_) (Nat.le_refl _) (dk_new z (beq_eq_false_iff_ne.mpr (Ne.symm (Nat.ne_of_lt I.big))) rel dd'))
  exact (hs.2 b (Nat.ne_of_lt (Heap.lt_size hq))).trans (Heap.get?_push_of_some _ hq)
end


section
variable {X : Cx} {pins : List (Addr × Obj)} {σ : St} {H : Hp} {s : Shared} {a : Addr} {y : V} {u : Value} {A : Around} {E : Value → Shared → Prop}
end
end L2

namespace Att
open PySem PySem.W PySem.Calls PyProof.Rows

/-! ### the script -/
theorem ints_of_wellAll {P : Params} {h : Heap} : ∀ (ns : List Int) (vs : List Value), WellAll P h vs (ns.map WData.int) → IntsAre vs ns := by
  intro ns
  induction ns with
  | nil =>
    intro vs w
    rw [List.map_nil] at w
    cases w
    exact .nil
  | cons n ns ih =>
    intro vs w
    rw [List.map_cons] at w
    cases w with
    | cons a b =>
      cases a
      exact .cons _ _ (ih _ b)

theorem script_of {l : OpenLaw} {n : Nat} (hn : l.most = some n) {P : Params} {h : Heap} {args : List WData} {vals : List Value}
    (hpre : l.row.toRowW.claim.pre args = true) (hwl : WellAll P h vals args) :
    ∃ a vs ns, vals = [Value.ref a] ∧ args = [WData.list (ns.map WData.int)] ∧ h.get? a = some { cls := .type "list", data := .seq vs.toArray } ∧ IntsAre vs ns ∧ ns.length ≤ n := by
  have hsh : WShape.hasAll [] args [.list .int] = true := (pre_splitW hpre).1
  have hc : l.pre.holds [] { args := args } = true := (pre_splitW hpre).2
  obtain ⟨d, r, rfl, h1, h2⟩ := hasAllW_cons hsh
  obtain rfl := hasAllW_nil h2
  obtain ⟨xs, rfl, h3⟩ := hasW_list h1
  obtain ⟨ns, rfl⟩ := items_int h3
  have hlen : ns.length ≤ n := by
    unfold OpenLaw.pre at hc
    have h4 : (WTm.not (.lt (.lit (.int (n : Int))) (.len (.arg 0)))).holds [] { args := [.list (ns.map .int)] } = true := by
      have h4 := (holds_andW hc).1
      rw [hn] at h4
      exact h4
    have h5 := condW_of h4 (w_not (w_lt w_lit (w_len_list (w_arg rfl))))
    rw [List.length_map] at h5
    refine Nat.le_of_not_lt fun q => ?_
    have q' : (n : Int) < ((ns.length : Nat) : Int) := by omega
    first
      | (rw [decide_eq_true q'] at h5; exact absurd h5 (by decide))
      | (simp at h5; omega)
  cases hwl with
  | cons w1 w2 =>
    cases w2
    cases w1 with
    | list ho hall => exact ⟨_, _, ns, rfl, rfl, ho, ints_of_wellAll ns _ hall, hlen⟩

theorem post_true (l : OpenLaw) (args : List WData) : l.row.toRowW.claim.post args (.bool true) args = true :=
  postW_of (r := l.row.toRowW) (X := (true == true))
    (show WShape.has [] (.bool true) .bool = true by first | rfl | decide | simp [WShape.has, WShape.arms, WShape.armsAll])
    (show (WTm.eq .res (.lit (.bool true))).value [] { args := args, res := some (.bool true), after := args } = some (.bool (true == true)) from w_eq_bool (w_res rfl) w_lit) rfl

/-! ### the attachment: holds_open's last premise (the goal 'hc' behind k_head) from a wpAny of the law's body -/
/-- the same from a codeAny of the CALL (for a layer whose function contracts speak of calls) -/
theorem attach_call {l : OpenLaw} {n : Nat} {q : Program} {loose : List Str} {XP : (Str → Option Value) → Heap → Prop} {YP : World → Heap → Prop} {d : DefRec}
    (hn : l.most = some n) (hdf : d.params.defaults = [])
    (call : ∀ (w : World) (s₀ s₁ : Shared) (mg mb : Str → Option Value) (fa : Addr) (o : Obj) (pm cd doc : Value) (a : Addr) (vs : List Value) (ns : List Int),
      Ground q loose [] XP w s₀ mg mb s₁.heap → YP w s₁.heap →
      s₁.heap.get? fa = some o → o.data = .func (docDef d.name d.params d.body d.scope pm cd doc) → s₁.heap.CodeRec cd d.name → mg d.name = some (.ref fa) →
      s₁.heap.get? a = some { cls := .type "list", data := .seq vs.toArray } → IntsAre vs ns → ns.length ≤ n → s₁.gens = #[] →
      codeAny (model l.prog w) callerA (.call (.ref fa) ⟨[.ref a], []⟩) (fun r s' => r = .ok (.ret (.bool true)) ∧ OldK s₁.heap s'.heap ∧ s'.os = s₁.os ∧ AllBare s'.gens) s₁) :
    WalkO q loose XP YP l.row.toRowW d [] (fun f vs => PySem.call f vs) := by
  intro w s₀ s₁ mg mb G Y fa o pm cd doc dV kV ho hd hcd hD hmg hg args vals as hpre hlay hrd hwl hlo
  obtain rfl : dV = .none := Dflts.none hD hdf
  obtain rfl : kV = .none := Dflts.noKw hD
  obtain ⟨a, vs, ns, rfl, rfl, hobj, hints, hlen⟩ := script_of hn hpre hwl
  refine enter_call (codeAny_mono (call w s₀ s₁ mg mb fa o pm cd doc a vs ns G Y ho (fd_plain hd) hcd hmg hobj hints hlen hg) fun r s' hq => ?_)
  obtain ⟨rfl, h2, h3, h4⟩ := hq
  exact ⟨.inl ⟨.bool true, .bool true, [], rfl, fun _ => rfl, .bool true, post_true l _, fun _ => ⟨List.Pairwise.nil, fun _ hm => (nomatch hm)⟩⟩, h2, h3, h4⟩

/-! ### rules over ANY heap (no ledger) from facts about the written part K: the library's own take a ledger (News) for what they write -/
section
variable {prog : Program} {w : World} {A : Around} {E : Value → Shared → Prop} {s : Shared} {K : Frag}

/-! the whole heap as the ledger: makes every rule that writes through a ledger a rule over any heap -/
def ledger (h : Heap) (L d : Addr) : List (Addr × Obj) := (List.range h.objs.size).filterMap fun a => if a = L ∨ a = d then none else (h.get? a).map fun o => (a, o)
end
end Att

namespace L2
open PySem PySem.Spec PyProof.Rows

theorem vals_ints : ∀ {vs : List Value} {ns : List Int}, IntsAre vs ns → Vals (ns.map V.int) vs
  | _, _, .nil => .nil
  | _, _, .cons n t h => .cons ⟨t, rfl⟩ (vals_ints h)

/-- nothing is tracked but the script, known to the object (or it is an object of the module) -/
def Only (H : Hp) : Prop := ∀ b, H b = none ∨ ∃ o xs, H b = some (.frz o (.lst xs))

/-- THE HEAD: the law's promise, at the heap behind the top. F, the promise of the law's def, may use that base is part of the heap (so K.In base, base.Ns mainGlobals mg stand in Mod) -/
theorem law_call {P : Program} {w : World} {K : PySem.W.Frag} {mg mb : Str → Option Value} {CX : CXT} {k : Nat} {fa a : Addr} {fd : FuncData} {x : Str} {sp : Sp} {s₁ : Shared} {vs : List Value} {ns : List Int}
    (KX : K.In s₁.heap) (hns : s₁.heap.Ns mainGlobals mg) (hb : s₁.heap.Ns builtinsNs mb) (hbb : ∀ x : Str, x ≠ "__name__" → mb x = bootBuiltins x) (hlim : s₁.heap.NoLimit) (hg : s₁.gens = #[])
    (ha : s₁.heap.get? a = some { cls := .type "list", data := .seq vs.toArray }) (hi : IntsAre vs ns) (hl : ns.length ≤ sizeLine) (hr : Room k callerA)
    (F : ∀ base : Heap, K.In base → base.Ns mainGlobals mg → FnOk P w K mg base CX k fa fd [x] sp) (hbind : ∀ (s : Shared) (u : Value), BindsTo s fd ⟨[u], []⟩ [(x, u)])
    (hsp : ∀ H : Hp, Only H → SqL K H a (ns.map V.int) → sp [.ref a] H (fun v _ => v = .bl true) fun _ _ _ => False)
    (hCX : ∀ H e s', CX [] H s₁ (fun _ _ _ => False) e s' → False) :
    codeAny (model P w) callerA (.call (.ref fa) ⟨[.ref a], []⟩) (fun r s' => r = .ok (.ret (.bool true)) ∧ OldK s₁.heap s'.heap ∧ s'.os = s₁.os ∧ AllBare s'.gens) s₁ := by
  have rv := vals_ints hi
  have lenV := hi.length
  -- from an abstract heap in which nothing but the script may be tracked
  have core : ∀ H : Hp, Only H → SqL K H a (ns.map V.int) → HOk P w H s₁.heap → (∀ b, H b ≠ none → b = a) → (H a ≠ none → K.lookup a = none) →
      codeAny (model P w) callerA (.call (.ref fa) ⟨[.ref a], []⟩) (fun r s' => r = .ok (.ret (.bool true)) ∧ OldK s₁.heap s'.heap ∧ s'.os = s₁.os ∧ AllBare s'.gens) s₁ := by
    intro H hO hS hok hA hK
    have base_of : ∀ {b : Addr} {o : Obj}, s₁.heap.get? b = some o → H b = none → (hidT s₁.heap H).get? b = some o := fun e n => hidT_get e n
    have noA : ∀ {b : Addr} {o : Obj} {es : Array DictEntry} {ep : Nat}, s₁.heap.get? b = some o → o.data = .dict es ep → H b = none := fun {b o es ep} e d => by
      cases q : H b with
      | none => rfl
      | some u =>
        have e' : b = a := hA b (by rw [q]; simp)
        subst e'
        rw [ha] at e; cases e
        have d' : Data.seq vs.toArray _ = Data.dict es ep := d
        cases d'
    have nsK : ∀ {b : Addr} {m : Str → Option Value}, s₁.heap.Ns b m → (hidT s₁.heap H).Ns b m := fun {b m} ⟨o, es, ep, e, d, r⟩ => ⟨o, es, ep, base_of e (noA e d), d, r⟩
    have hKb : K.In (hidT s₁.heap H) := fun b o e => base_of (KX b o e) (by
      cases q : H b with
      | none => rfl
      | some u =>
        have e' : b = a := hA b (by rw [q]; simp)
        subst e'
        rw [hK (by rw [q]; simp)] at e; cases e)
    have hM : Mod K mg (hidT s₁.heap H) := ⟨hKb, nsK hns, ⟨mb, nsK hb, hbb⟩, let ⟨mc, h1, h2⟩ := hlim; ⟨mc, nsK h1, h2⟩⟩
    have e0 : Env0 P w K mg (hidT s₁.heap H) callerA [] s₁ H := ⟨rfl, hM, fun b o e => of_hidT e, Nat.le_of_eq (hidT_size _ _), trivial, fun b hb => absurd (show b ∈ ([] : List Addr) from hb) (by simp), hok, .of_eq hg⟩
    refine codeAny_mono ((F _ hKb (nsK hns)).run callerA [] s₁ H ⟨[.ref a], []⟩ [.ref a] [.ref a] _ _ hr e0 (hbind s₁ (.ref a)) (.cons rfl .nil) (hsp H hO hS)) fun r s' h => ?_
    cases r with
    | error e => exact (hCX H e s' h).elim
    | ok fl =>
      cases fl with
      | next => exact False.elim h
      | brk => exact False.elim h
      | cont => exact False.elim h
      | ret u =>
        obtain ⟨v, H', os, bare, un, hok', r', q⟩ := h
        have q' : v = .bl true := q
        subst q'
        obtain rfl : u = Value.bool true := r'
        refine ⟨rfl, OldK.of_keep fun b o e => ?_, os, bare⟩
        cases q : H b with
        | none => exact un.keep b o e q (by intro z; exact absurd (show b ∈ ([] : List Addr) from z) (by simp)) (by simp)
        | some u =>
          rcases hO b with z | ⟨ob, xs, z⟩
          · rw [q] at z; cases z
          · have z2 := un.frzs b ob _ z
            obtain ⟨e1, _⟩ := hok b _ z
            obtain ⟨e2, _⟩ := hok' b _ z2
            rw [e] at e1; cases e1
            exact e2
  cases hk : K.lookup a with
  | some o =>
    -- the script is one of the module's own objects
    have e := KX a o hk
    rw [ha] at e
    cases e
    refine core (fun _ => none) (fun _ => .inl rfl) (.inr ⟨_, vs.toArray, _, hk, rfl, rfl, rfl, by rw [List.size_toArray, lenV]; exact hl, by simpa using rv⟩) (fun b u z => by have z' : (none : Option HO) = some u := z; cases z') (fun b z => absurd rfl z) fun z => absurd rfl z
  | none =>
    refine core (fun b => if b = a then some (.frz { cls := .type "list", data := .seq vs.toArray } (.lst (ns.map V.int))) else none) (fun b => ?_) (.inl (.inr ⟨{ cls := .type "list", data := .seq vs.toArray }, if_pos rfl⟩)) (fun b u z => ?_) (fun b z => ?_) fun _ => hk
    · by_cases hb : b = a
      · exact .inr ⟨_, _, if_pos hb⟩
      · exact .inl (if_neg hb)
    · by_cases hb : b = a
      · have z' := (if_pos hb).symm.trans z
        cases z'
        subst hb
        exact ⟨ha, by rw [List.length_map]; exact hl, vs, _, rv, ha⟩
      · have z' := (if_neg hb).symm.trans z
        cases z'
    · by_cases hb : b = a
      · exact hb
      · exact absurd (if_neg hb) z
end L2

namespace L2
open PySem PySem.Spec PyProof.Rows

/-- the goal that k_head leaves (case hc), from the law's promise. F gives the function object fd (K's own) once, then the promise over every base -/
theorem walk_of {l : PySem.W.OpenLaw} {n k : Nat} {q : Program} {loose : List Str} {XP : (Str → Option Value) → Heap → Prop} {YP : World → Heap → Prop} {d : DefRec} {K : Params → PySem.W.Frag} {CX : World → CXT} {sp : World → Sp} {x : Str}
    (hn : l.most = some n) (hn2 : n ≤ sizeLine) (hdf : d.params.defaults = []) (hr : Room k callerA)
    (hY : ∀ (w : World) (h : Heap), YP w h → (K w.params).In h)
    (F : ∀ (w : World) (mg : Str → Option Value) (fa : Addr) (h : Heap), (K w.params).In h → h.Ns mainGlobals mg → mg d.name = some (.ref fa) →
      ∃ fd : FuncData, (∀ (s : Shared) (u : Value), BindsTo s fd ⟨[u], []⟩ [(x, u)]) ∧
        ∀ base : Heap, (K w.params).In base → base.Ns mainGlobals mg → FnOk l.prog w (K w.params) mg base (CX w) k fa fd [x] (sp w))
    (hsp : ∀ (w : World) (H : Hp) (a : Addr) (ns : List Int), ns.length ≤ n → Only H → SqL (K w.params) H a (ns.map V.int) → sp w [.ref a] H (fun v _ => v = .bl true) fun _ _ _ => False)
    (hCX : ∀ (w : World) (H : Hp) (s : Shared) (e : Value) (s' : Shared), CX w [] H s (fun _ _ _ => False) e s' → False) :
    PySem.W.WalkO q loose XP YP l.row.toRowW d [] (fun f vs => PySem.call f vs) := by
  refine Att.attach_call hn hdf fun w s₀ s₁ mg mb fa o pm cd doc a vs ns G Y ho hd hcd hmg hobj hints hlen hg => ?_
  have KX := hY w _ Y
  obtain ⟨fd, hb, hF⟩ := F w mg fa _ KX G.T.g hmg
  exact law_call KX G.T.g G.T.b G.T.builtins G.T.nolimit hg hobj hints (Nat.le_trans hlen hn2) hr hF hb (fun H hO hS => hsp w H a ns hlen hO hS) fun H e s' => hCX w H s₁ e s'
end L2

/- THE LAST THEOREM (shape; LID, My.* are yours):
   My.Adr: a structure of the addresses that your layer names (classes, functions); My.Txt K t: a structure (Prop) of the equations over K;
   My.txt_mk : {K} {implicit addresses ..} (e1 : nsIn K mainGlobals "law" = some (some (.ref f))) (e2 : K.lookup f = some ⟨oc, od, .func (fnOf "law" "law" params body scope dV kV doc pm an cdv ct), sl⟩) (e3 : codeIn K cdv "law" = true) .. : ∃ t, My.Txt K t

(the tactic k_is has no namespace: write k_is) -/

/-! SHORT WORDS over the layer: a def of the text, its body, what a loop and a test want. -/
namespace L2
open PySem PySem.Spec PyProof.Rows

/-! ### the text by places -/
/-- the j-th statement of a class's body -/
def inClass (s : Stmt) (j : Nat) : Stmt := match s with
  | .ClassDef _ _ _ body _ _ _ _ _ _ _ => body.getD j (.Pass ⟨0, 0, 0, 0⟩)
  | _ => .Pass ⟨0, 0, 0, 0⟩
def defArgs (s : Stmt) : Arguments := match s with
  | .FunctionDef _ a _ _ _ _ _ _ _ _ => a
  | _ => { posonlyargs := [], args := [], vararg := none, kwonlyargs := [], kw_defaults := [], kwarg := none, defaults := [] }
def defBody (s : Stmt) : List Stmt := match s with
  | .FunctionDef _ _ b _ _ _ _ _ _ _ => b
  | _ => []
def defScope (s : Stmt) : Scope := match s with
  | .FunctionDef _ _ _ _ _ _ sc _ _ _ => sc
  | _ => { kind := .function, names := [], isGenerator := false, isCoroutine := false }

/-! ### no exception leaves a def -/
abbrev CX0 : CXT := fun _ _ _ _ _ _ => False
abbrev E0 : XK := fun _ _ _ => False
theorem pass0 {X : Cx} : Passes CX0 X E0 := fun _ _ _ _ _ _ _ h => h.elim

/-! ### a def (or method) of the text as it stands behind the top -/
structure Fun (K : PySem.W.Frag) (x qual : Str) (st : Stmt) (f : Addr) (fd : FuncData) : Prop where
  ex : ∃ (oc : Value) (od : Option Addr) (kV doc pm : Value) (an : Option Addr) (cdv ct : Value) (osl : Array (Option Value)),
    fd = PySem.W.fnOf x qual (defArgs st) (defBody st) (defScope st) .none kV doc pm an cdv ct ∧ K.lookup f = some ⟨oc, od, .func fd, osl⟩ ∧ PySem.W.codeIn K cdv qual = true
  kp : PySem.W.keepIn K (.ref f) = true
section
variable {P : Program} {w : World} {K : PySem.W.Frag} {mg : Str → Option Value} {base : Heap}
/-- THE RULE for a def: its body as a term of rules, and the reading of that term -/
theorem Fun.ok {x qual : Str} {st : Stmt} {f : Addr} {fd : FuncData} {N ps : List Str} {k : Nat} {sp : Sp} (F : Fun K x qual st f fd) (S : FnScope N ps (defScope st)) (len : ∀ vs H Q E, sp vs H Q E → vs.length = ps.length)
    (hbody : ∀ (cdv : Value) (A : Around) (outer : List Env) (s : Shared) (H : Hp) (vs : List V) (Q : VK) (E : XK), Room k (A.deeper (envOfC qual (defScope st) s.heap.objs.size f cdv)) → sp vs H Q E →
      ∃ t, PSs (cxOf CX0 P w K mg base N qual (defScope st) f cdv A outer s H E).nox (defBody st) t ∧ t { nx := fun _ H' => Q .non H', rt := Q } (start N vs) H) : FnOk P w K mg base CX0 (k + 1) f fd ps sp := by
  obtain ⟨oc, od, kV, doc, pm, an, cdv, ct, osl, rfl, lk, hcd⟩ := F.ex
  refine fn_of lk hcd S len fun A outer s H vs Q E hr hsp => ?_
  obtain ⟨t, h, q⟩ := hbody cdv A outer s H vs Q E hr hsp
  exact ⟨t, h.nox, q⟩
/-- how its arguments bind (no defaults): h is «fun _ _ _ _ _ _ us hl => match us, hl with | [_, _], _ => rfl», one _ a parameter -/
theorem Fun.binds {x qual : Str} {st : Stmt} {f : Addr} {fd : FuncData} {ps : List Str} (F : Fun K x qual st f fd)
    (h : ∀ (kV doc pm : Value) (an : Option Addr) (cdv ct : Value) (us : List Value), us.length = ps.length → bindArgs (PySem.W.fnOf x qual (defArgs st) (defBody st) (defScope st) .none kV doc pm an cdv ct) ⟨us, []⟩ = pure (ps.zip us)) : Binds K fd ps [] := by
  obtain ⟨oc, od, kV, doc, pm, an, cdv, ct, osl, rfl, lk, hcd⟩ := F.ex
  exact .all (h kV doc pm an cdv ct)
theorem fun_mk {x qual : Str} {st : Stmt} {f : Addr} {oc : Value} {od an : Option Addr} {osl : Array (Option Value)} {kV doc pm cdv ct : Value} (l : K.lookup f = some ⟨oc, od, .func (PySem.W.fnOf x qual (defArgs st) (defBody st) (defScope st) .none kV doc pm an cdv ct), osl⟩)
    (c : PySem.W.codeIn K cdv qual = true) (k : PySem.W.keepIn K (.ref f) = true) : Fun K x qual st f (PySem.W.fnOf x qual (defArgs st) (defBody st) (defScope st) .none kV doc pm an cdv ct) := ⟨⟨oc, od, kV, doc, pm, an, cdv, ct, osl, rfl, l, c⟩, k⟩
end
theorem hu_of {A : Around} {k : Nat} (hr : Room k A) : A.units + 1 < cLine := Nat.lt_of_le_of_lt (Nat.add_le_add_left (by decide : 1 ≤ 64) _) hr.units
/-! ### expressions in short: the name that stands in the i-th slot -/
section
variable {X : Cx}
theorem pv (i : Nat) {x : Str} {pos : Pos} (hN : X.N[i]? = some x := by rfl) (hv : Vis X.env.scope x := by first | exact Or.inl rfl | exact Or.inr (Or.inl rfl) | exact Or.inr (Or.inr rfl)) (hd : (x == ("__debug__" : Str)) = false := by decide)
    (hcd : (x == ("__classdict__" : Str)) = false := by decide) : PE X (.Name x pos) (tVar i) := pe_var hN hv hd hcd
/-- len of a dict -/
theorem call_lenD : CallR X (.builtin "len") (fun xs H Q => ∃ a kvs, xs = [V.ref a] ∧ H a = some (.dK kvs) ∧ Q (.int kvs.length) H) := by
  intro pins s σ H xs us Q I r h
  obtain ⟨a, kvs, rfl, ha, q⟩ := h
  obtain ⟨u, rfl, ru⟩ := vals1 r
  cases ru
  exact d_len I (.inl ha) fun t s' I' => ⟨.int kvs.length, H, I', ⟨t, rfl⟩, q⟩
end

/-! ### tests -/
theorem iteF {A B : Prop} (h : B) : if false = true then A else B := by
  rw [if_neg Bool.false_ne_true]
  exact h
theorem iteT {A B : Prop} (h : A) : if true = true then A else B := by
  rw [if_pos rfl]
  exact h
theorem ite2 {c A B : Prop} [Decidable c] (h1 : c → A) (h2 : ¬ c → B) : if c then A else B := by
  by_cases h : c
  · rw [if_pos h]
    exact h1 h
  · rw [if_neg h]
    exact h2 h
/-! ### heaps -/
/-- all that was tracked is as it was -/
def Same (H H' : Hp) : Prop := ∀ b o, H b = some o → H' b = some o
theorem Same.refl (H : Hp) : Same H H := fun _ _ h => h
theorem Same.trans {H H1 H2 : Hp} (a : Same H H1) (b : Same H1 H2) : Same H H2 := fun c o h => b c o (a c o h)
theorem Same.free {H H' : Hp} (e : Same H H') {l : Addr} (h : H' l = Option.none) : H l = Option.none := by
  cases q : H l with
  | none => rfl
  | some o =>
    rw [e l o q] at h
    cases h
theorem Same.seq {K : PySem.W.Frag} {H H' : Hp} {a : Addr} {xs : List V} (e : Same H H') (h : SqL K H a xs) : SqL K H' a xs := by
  rcases h with (h | ⟨o, h⟩) | h
  · exact .inl (.inl (e _ _ h))
  · exact .inl (.inr ⟨o, e _ _ h⟩)
  · exact .inr h

/-! ### a dict's pairs: keys that differ -/
section
variable {κ : Type} [DecidableEq κ]
theorem nd_snoc : ∀ {l : List κ} {k : κ}, l.Nodup → ¬ k ∈ l → (l ++ [k]).Nodup
  | [], k, _, _ => by simp
  | a :: r, k, h, hk => by
    obtain ⟨h1, h2⟩ := List.nodup_cons.mp h
    show (a :: (r ++ [k])).Nodup
    refine List.nodup_cons.mpr ⟨fun m => ?_, nd_snoc h2 fun m => hk (List.mem_cons.mpr (Or.inr m))⟩
    rcases List.mem_append.mp m with q | q
    · exact h1 q
    · exact hk (List.mem_cons.mpr (Or.inl (List.mem_singleton.mp q).symm))
end
end L2

namespace L2
open PySem PySem.Spec PyProof.Rows

/-! ## A comprehension -/
theorem mem_of_lk {κ β : Type} [BEq κ] [LawfulBEq κ] {k : κ} {v : β} : ∀ {l : List (κ × β)}, l.lookup k = some v → (k, v) ∈ l
  | [], h => by simp at h
  | (a, b) :: r, h => by
    rw [List.lookup_cons] at h
    cases e : k == a with
    | true =>
      rw [e] at h
      simp at h
      rw [eq_of_beq e, h]
      exact List.mem_cons_self
    | false =>
      rw [e] at h
      exact List.mem_cons_of_mem _ (mem_of_lk h)
theorem lk_of_mem {κ β : Type} [BEq κ] [LawfulBEq κ] {k : κ} {v : β} : ∀ {l : List (κ × β)}, (k, v) ∈ l → ∃ w, l.lookup k = some w
  | [], h => by simp at h
  | (a, b) :: r, h => by
    rw [List.lookup_cons]
    cases e : k == a with
    | true => exact ⟨b, rfl⟩
    | false =>
      rcases List.mem_cons.mp h with h | h
      · injection h with h1 h2
        rw [h1] at e
        simp at e
      · exact lk_of_mem h
/-- the closure of a comprehension's block: the free names' cells -/
theorem closure_ok {env : Env} {scope : Scope} (h : ∀ x ∈ scope.names, x.2 = .free → ∃ c, env.cells.lookup x.1 = some c) :
    ∃ cl, closureFor scope env = pure cl ∧ (∀ x c, (x, c) ∈ cl → (x, NameKind.free) ∈ scope.names ∧ env.cells.lookup x = some c) ∧ ∀ x, (x, NameKind.free) ∈ scope.names → ∃ c, (x, c) ∈ cl := by
  have all : ∀ (names : List (Str × NameKind)) (acc : List (Str × Addr)), (∀ x ∈ names, x.2 = .free → ∃ c, env.cells.lookup x.1 = some c) →
      ∃ cl : List (Str × Addr), (forIn names acc fun (x : Str × NameKind) (r : List (Str × Addr)) => (if (x.2 == NameKind.free) = true then do let c ← cellOf env x.1; pure (ForInStep.yield ((x.1, c) :: r)) else pure (ForInStep.yield r) : Sem (ForInStep (List (Str × Addr))))) = pure cl ∧
        (∀ x c, (x, c) ∈ cl → (x, c) ∈ acc ∨ ((x, NameKind.free) ∈ names ∧ env.cells.lookup x = some c)) ∧ (∀ p ∈ acc, p ∈ cl) ∧ ∀ x, (x, NameKind.free) ∈ names → ∃ c, (x, c) ∈ cl := by
    intro names
    induction names with
    | nil => intro acc _; exact ⟨acc, rfl, fun x c h => .inl h, fun p h => h, fun x h => by simp at h⟩
    | cons y r ih =>
      intro acc hy
      obtain ⟨n, k⟩ := y
      by_cases hk : k = .free
      · subst hk
        obtain ⟨c, hc⟩ := hy (n, .free) List.mem_cons_self rfl
        obtain ⟨cl, e, h1, h2, h3⟩ := ih ((n, c) :: acc) fun x hx => hy x (List.mem_cons_of_mem _ hx)
        refine ⟨cl, ?_, fun x d hd => ?_, fun p hp => h2 p (List.mem_cons_of_mem _ hp), fun x hx => ?_⟩
        · rw [List.forIn_cons]
          have hcell : cellOf env n = pure c := by unfold cellOf; rw [hc]
          simp only [beq_self_eq_true, if_true, hcell, pure_bind]
          exact e
        · rcases h1 x d hd with q | ⟨q1, q2⟩
          · rcases List.mem_cons.mp q with q | q
            · injection q with q1 q2
              subst q1 q2
              exact .inr ⟨List.mem_cons_self, hc⟩
            · exact .inl q
          · exact .inr ⟨List.mem_cons_of_mem _ q1, q2⟩
        · rcases List.mem_cons.mp hx with q | q
          · injection q with q1 _
            subst q1
            exact ⟨c, h2 _ List.mem_cons_self⟩
          · exact h3 x q
      · obtain ⟨cl, e, h1, h2, h3⟩ := ih acc fun x hx => hy x (List.mem_cons_of_mem _ hx)
        refine ⟨cl, ?_, fun x d hd => (h1 x d hd).imp id fun q => ⟨List.mem_cons_of_mem _ q.1, q.2⟩, h2, fun x hx => ?_⟩
        · rw [List.forIn_cons]
          have hb : (k == NameKind.free) = false := by simpa using hk
          simp only [hb, Bool.false_eq_true, if_false, pure_bind]
          exact e
        · rcases List.mem_cons.mp hx with q | q
          · injection q with _ q2
            exact absurd q2.symm hk
          · exact h3 x q
  obtain ⟨cl, e, h1, _, h3⟩ := all scope.names [] h
  refine ⟨cl, ?_, fun x c q => (h1 x c q).resolve_left (by simp), h3⟩
  show ((forIn scope.names ([] : List (Str × Addr)) fun (x : Str × NameKind) (r : List (Str × Addr)) => (if (x.2 == NameKind.free) = true then do let c ← cellOf env x.1; pure (ForInStep.yield ((x.1, c) :: r)) else pure (ForInStep.yield r) : Sem (ForInStep (List (Str × Addr))))) >>= fun r => pure r) = pure cl
  rw [e]
  rfl

theorem lk_relabel_free {env : Env} : ∀ {names : List (Str × NameKind)} {x : Str}, names.lookup x = some .free →
    (names.map fun (n, k) => if (k == NameKind.free && env.scope.kind == .function && env.kindOf n == some .cell) then (n, NameKind.cell) else (n, k)).lookup x = some .cell ∨
    (names.map fun (n, k) => if (k == NameKind.free && env.scope.kind == .function && env.kindOf n == some .cell) then (n, NameKind.cell) else (n, k)).lookup x = some .free
  | [], _, h => by simp at h
  | (n, k) :: r, x, h => by
    have ih := @lk_relabel_free env r x
    show List.lookup x ((if (k == NameKind.free && env.scope.kind == .function && env.kindOf n == some .cell) = true then (n, NameKind.cell) else (n, k)) :: _) = _ ∨ List.lookup x ((if (k == NameKind.free && env.scope.kind == .function && env.kindOf n == some .cell) = true then (n, NameKind.cell) else (n, k)) :: _) = _
    cases hx : x == n with
    | true =>
      simp only [List.lookup_cons, hx] at h
      cases h
      by_cases hc : (NameKind.free == NameKind.free && env.scope.kind == .function && env.kindOf n == some .cell) = true
      · rw [if_pos hc]; simp only [List.lookup_cons, hx]; exact .inl trivial
      · rw [if_neg hc]; simp only [List.lookup_cons, hx]; exact .inr trivial
    | false =>
      simp only [List.lookup_cons, hx] at h
      by_cases hc : (k == NameKind.free && env.scope.kind == .function && env.kindOf n == some .cell) = true
      · rw [if_pos hc]; simp only [List.lookup_cons, hx]; exact ih h
      · rw [if_neg hc]; simp only [List.lookup_cons, hx]; exact ih h

/-- the context of a comprehension's block -/
def cxComp (X : Cx) (scope : Scope) (N : List Str) (cl : List (Str × Addr)) (C : Addr) (s : Shared) (H : Hp) (fp : List Addr) (pn : List (Addr × Obj)) : Cx :=
  { X with N := N, s₀ := s, H₀ := H, env := compEnvC scope cl C X.env, outer := X.stack, stack := X.stack, ex := fp, fn := fun _ => false, pn := pn, xe := fun _ _ => False }
/-- the captured names: their slots without, their names -/
def CapsOk (X : Cx) (scope : Scope) : List (Nat × Str) → Prop
  | [] => True
  | p :: r => (X.N[p.1]? = some p.2 ∧ scope.names.lookup p.2 = some .free ∧ (X.env.scope.names.lookup p.2 = some .cell ∨ X.env.scope.names.lookup p.2 = some .free)) ∧ CapsOk X scope r
theorem CapsOk.get {X : Cx} {scope : Scope} : ∀ {caps : List (Nat × Str)} {j : Nat} {p : Nat × Str}, CapsOk X scope caps → caps[j]? = some p →
    X.N[p.1]? = some p.2 ∧ scope.names.lookup p.2 = some .free ∧ (X.env.scope.names.lookup p.2 = some .cell ∨ X.env.scope.names.lookup p.2 = some .free)
  | [], _, _, _, h => by simp at h
  | q :: r, 0, p, h, e => by simp at e; subst e; exact h.1
  | q :: r, j + 1, p, h, e => CapsOk.get h.2 (by simpa using e)
/-- the slots of the block at its entry -/
def capSt (own : List Str) (caps : List (Nat × Str)) (σ : St) : St := own.map (fun _ => none) ++ caps.map fun p => (σ[p.1]?).join
/-- a comprehension's turns: W what holds ahead of each, with a measure -/
def CompW (J : It) (D : Addr) (σ0 : St) (H1 : Hp) (g : TG) (tf : TT) (te : TE) (Q : VK) : Prop := ∃ W : Nat → Nat → St → Hp → Prop,
  (∃ m, W 0 m σ0 (upd H1 D (.lst []))) ∧ ∀ i m σ' H', W i m σ' H' →
    (J.stop i H' ∧ Q (.ref D) H') ∨ (J.go i H' ∧ ∀ x H2, J.yld i H' x H2 → g x σ' H2 fun σ2 H3 => tf σ2 H3 fun b H4 =>
      if b = true then te σ2 H4 fun v H5 => ∃ ys, H5 D = some (.lst ys) ∧ ys.length < sizeLine ∧ ∃ m', m' < m ∧ W (i + 1) m' σ2 (upd H5 D (.lst (ys ++ [v])))
      else ∃ m', m' < m ∧ W (i + 1) m' σ2 H4)
/-- a comprehension's reading -/
def tComp (wi : TI) (own : List Str) (caps : List (Nat × Str)) (g : TG) (tf : TT) (te : TE) : TE := fun σ H Q => wi σ H fun J H1 => ∀ D, H1 D = none → CompW J D (capSt own caps σ) H1 g tf te Q
def PTs (X : Cx) (ifs : List Expr) (t : TT) : Prop :=
  ∀ (pins : List (Addr × Obj)) (s : Shared) (σ : St) (H : Hp) (Q : Bool → Hp → Prop), Inv X pins σ H s → t σ H Q → wpAny (model X.prog X.w) X.A (forIn ifs true fun c r => if r = true then do let ok ← isTrue c X.env (eval c X.env); pure (ForInStep.yield ok) else pure (ForInStep.yield r)) (TP X pins σ Q) X.xe s
def tTrue : TT := fun _ H Q => Q true H
theorem pts_nil {X : Cx} : PTs X [] tTrue := fun _ _ _ H _ I h => wpAny_tests_nil ⟨H, I, h⟩
theorem pts_one {X : Cx} {c : Expr} {t : TT} (h : PT X c t) : PTs X [c] t := fun pins s σ H Q I hw => wpAny_tests_one (h pins s σ H Q I hw)

theorem comp_loop {prog : Program} {w : World} {A : Around} {R : Result → Shared → Prop} {s : Shared} {elt target iter : Expr} {ifs : List Expr} {scope : Scope} {pos : Pos} {it acc : Value} {env : Env} (I : Nat → Shared → Prop)
    (turn : ∀ n s, I n s → wpAny (model prog w) A (pyNext it) (fun r s₁ => match r with
      | none => R (.ok .next) s₁
      | some v => wpAny (model prog w) A (letOwnedTupleGo target it v) (fun _ s₁' => wpAny (model prog w) A (assign target env v) (fun _ s₂ =>
          wpAny (model prog w) A (forIn ifs true fun c r => if r = true then do let ok ← isTrue c env (eval c env); pure (ForInStep.yield ok) else pure (ForInStep.yield r)) (fun ok s₃ =>
            if ok = true then wpAny (model prog w) A (eval elt env) (fun x s₄ =>
              wpAny (model prog w) A (call (.builtin "list.append") [acc, x]) (fun _ s₅ => ∃ m, m < n ∧ I m s₅) (fun _ _ => False) s₄) (fun _ _ => False) s₃
            else ∃ m, m < n ∧ I m s₃) (fun _ _ => False) s₂) (fun _ _ => False) s₁') (fun _ _ => False) s₁) (fun _ _ => False) s)
    (n : Nat) (h : I n s) :
    codeAny (model prog w) A (.compLoop (.ListComp elt [⟨target, iter, ifs, 0⟩] scope pos) 0 it acc env) R s := by
  refine codeAny_loop rfl I (fun n s hI => ?_) n h
  show wpAny _ A ((compTurn (.ListComp elt [⟨target, iter, ifs, 0⟩] scope pos) 0 it acc env).onRaise (fun x => do noteFrame x env; theTreesLotGoes x)) _ _ s
  refine wpAny_noted ?_
  rw [compTurn_list]
  refine wpAny_bind (wpAny_standAt (wpAny_bind (wpAny_mono (turn n s hI) (fun r s₁ h₁ => ?_) fun _ _ h' => h'.elim)))
  cases r with
  | none => exact wpAny_pure h₁
  | some v =>
    refine wpAny_bind (wpAny_mono h₁ (fun _ s₁' h₁' => ?_) fun _ _ h' => h'.elim)
    refine wpAny_bind (wpAny_mono h₁' (fun _ s₂ h₂ => wpAny_bind (wpAny_mono h₂ (fun ok s₃ h₃ => ?_) fun _ _ h' => h'.elim)) fun _ _ h' => h'.elim)
    cases ok with
    | false => exact wpAny_pure ⟨rfl, h₃⟩
    | true =>
      exact wpAny_bind (wpAny_bind (wpAny_mono h₃ (fun x s₄ h₄ => wpAny_bind (wpAny_mono h₄ (fun _ s₅ h₅ => wpAny_pure (wpAny_pure ⟨rfl, h₅⟩)) fun _ _ h' => h'.elim)) fun _ _ h' => h'.elim))

section
variable {X : Cx} {pins : List (Addr × Obj)} {σ : St}
/-- what is without a comprehension's block, seen from within -/
theorem comp_ok {H2 : Hp} {s2 : Shared} {fp : List Addr} {scope : Scope} {N : List Str} {cl : List (Str × Addr)} {C : Addr} (I2 : Inv X pins σ H2 s2) (f2 : ∀ b ∈ fp, FpOk X pins H2 b) (hC : s2.heap.objs.size < C)
    (hfs : ∀ b ∈ fp, b < s2.heap.objs.size) (hkind : scope.kind = .function) (hcl : ∀ x c, cl.lookup x = some c → X.env.cells.lookup x = some c)
    (hhas : ∀ x, ((relabel scope X.env).names.lookup x = some .cell ∨ (relabel scope X.env).names.lookup x = some .free) → ∃ c, cl.lookup x = some c) :
    (cxComp X scope N cl C s2 H2 fp (X.pn ++ pins)).Ok where
  mod := I2.ok.mod
  kind := hkind
  glob := I2.ok.glob
  blt := I2.ok.blt
  above := Nat.le_of_lt hC
  inj := fun x y c h1 h2 => I2.ok.inj x y c (hcl x c h1) (hcl y c h2)
  has := hhas
  cab := fun _ _ h _ => by cases h
  hd := I2.ok.hd
  frames := I2.ok.frames
  stk := .inl rfl
  exf := fun b hb => ⟨Nat.ne_of_lt (Nat.lt_trans (hfs b hb) hC), fun x c e => (f2 b hb).2.2.2.2.1 x c (hcl x c e)⟩
  bs := I2.bs
  bsz := Nat.le_trans I2.ok.bsz I2.sz
  noex := fun b o e hb => by
    rcases (f2 b hb).2.2.2.1 with z | z
    · exact I2.ok.noex b o e z
    · exact absurd (Nat.lt_of_lt_of_le (Heap.lt_size e) (Nat.le_trans I2.ok.bsz z)) (Nat.lt_irrefl _)
  exfs := fun b hb z => (List.mem_cons.mp (I2.stkSub b z)).elim (f2 b hb).2.1 (f2 b hb).2.2.1
  funs := I2.stack
  frf := I2.stkFree

theorem comp_start {H2 : Hp} {s2 : Shared} {fp : List Addr} {scope : Scope} {own : List Str} {caps : List (Nat × Str)} {cl : List (Str × Addr)} {D C : Addr} {h1 : Heap} {tk : Nat} {m : Str → Option Value}
    (I2 : Inv X pins σ H2 s2) (f2 : ∀ b ∈ fp, FpOk X pins H2 b) (hC : @Eq Nat C (s2.heap.objs.size + 1)) (hD : @Eq Nat D s2.heap.objs.size)
    (hfs : ∀ b ∈ fp, b < s2.heap.objs.size) (hkind : scope.kind = .function) (hcl : ∀ x c, cl.lookup x = some c → X.env.cells.lookup x = some c)
    (hhas : ∀ x, ((relabel scope X.env).names.lookup x = some .cell ∨ (relabel scope X.env).names.lookup x = some .free) → ∃ c, cl.lookup x = some c)
    (hcap : CapsOk X scope caps) (hns : h1.Ns C m) (old : ∀ b o, s2.heap.get? b = some o → h1.get? b = some o) (hlst : ∃ n, h1.get? D = some { cls := .type "list", data := .seq #[] n }) :
    Inv (cxComp X scope (own ++ caps.map (·.2)) cl C s2 H2 fp (X.pn ++ pins)) [] (capSt own caps σ) (upd H2 D (.lst [])) { s2 with heap := h1, toks := tk } := by
  have hCs : s2.heap.objs.size < C := by omega
  have hDn : H2 D = none := I2.hok.fresh (by omega)
  have hCn : H2 C = none := I2.hok.fresh (by omega)
  have hCD : C ≠ D := by show ¬ @Eq Nat C D; omega
  have hDs : s2.heap.objs.size ≤ D := by show @LE.le Nat _ s2.heap.objs.size D; omega
  have new : ObjOk X.prog X.w (upd H2 D (.lst [])) h1 D (.lst []) := let ⟨n, e⟩ := hlst; ⟨Nat.zero_le _, [], n, .nil, e⟩
  refine ⟨comp_ok I2 f2 hCs hfs hkind hcl hhas, rfl, I2.bare, Un.laid old hDs hDn, ⟨m, hns, fun i x v e1 e2 e3 => ?_⟩, fun x c e => ?_, ?_, fun x c e => ?_, fun p hp => ?_, I2.hok.laid old hDs new, ?_⟩
  · -- a captured name
    have e2' : (capSt own caps σ)[i]? = some (some v) := e2
    unfold capSt at e2'
    by_cases hi : i < own.length
    · rw [List.getElem?_append_left (by simpa using hi), List.getElem?_map] at e2'
      cases q : own[i]? with
      | none => rw [q] at e2'; cases e2'
      | some y => rw [q] at e2'; cases e2'
    · have hle : own.length ≤ i := Nat.le_of_not_lt hi
      rw [List.getElem?_append_right (by simpa using hle), List.getElem?_map, List.length_map] at e2'
      have e1' : (own ++ caps.map (·.2))[i]? = some x := e1
      rw [List.getElem?_append_right hle, List.getElem?_map] at e1'
      cases q : caps[i - own.length]? with
      | none => rw [q] at e2'; cases e2'
      | some p =>
        rw [q] at e2' e1'
        have ex : p.2 = x := Option.some.inj e1'
        have ev : (σ[p.1]?).join = some v := Option.some.inj e2'
        obtain ⟨hN, hf, hv⟩ := hcap.get q
        have hσ : σ[p.1]? = some (some v) := by
          cases r : σ[p.1]? with
          | none => rw [r] at ev; cases ev
          | some y => rw [r] at ev; rw [show y = some v from ev]
        obtain ⟨mX, _, hl⟩ := I2.loc
        obtain ⟨u, ru, lk⟩ := hl p.1 p.2 v hN hσ (.inr hv)
        subst ex
        refine ⟨u, ru, .inr ⟨lk_relabel_free hf, ?_⟩⟩
        rcases lk with ⟨k, _⟩ | ⟨_, c, e, z⟩
        · have k' : X.env.scope.names.lookup p.2 = some .local := k
          rw [k'] at hv
          rcases hv with z | z <;> cases z
        · obtain ⟨c', e'⟩ := hhas p.2 (lk_relabel_free hf)
          have e2 := hcl p.2 c' e'
          rw [e] at e2
          cases e2
          obtain ⟨o, ho, hd⟩ := z
          exact ⟨c, e', o, old c o ho, hd⟩
  · obtain ⟨v, o, ho, hd⟩ := I2.cell x c (hcl x c e)
    exact ⟨v, o, old c o ho, hd⟩
  · show upd H2 D (.lst []) C = none
    rw [upd_ne hCD]; exact hCn
  · obtain ⟨v, q⟩ := I2.cell x c (hcl x c e)
    rw [upd_ne (Nat.ne_of_lt (Nat.lt_of_lt_of_le q.lt hDs))]
    exact I2.freeC x c (hcl x c e)
  · have hp' : p ∈ X.pn ++ pins := by
      have hp2 : p ∈ (X.pn ++ pins) ++ [] := hp
      rwa [List.append_nil] at hp2
    obtain ⟨e, n, ne, nf, d⟩ := I2.pin p hp'
    have lt := Heap.lt_size e
    refine ⟨old p.1 p.2 e, by rw [upd_ne (Nat.ne_of_lt (Nat.lt_of_lt_of_le lt hDs))]; exact n, ?_, fun z => (List.mem_cons.mp (I2.stkSub p.1 z)).elim ne nf, d⟩
    exact Nat.ne_of_lt (Nat.lt_trans lt hCs)
  · show (capSt own caps σ).length = (own ++ caps.map (·.2)).length
    unfold capSt
    simp

/-- back from the block -/
theorem comp_back {H2 H' : Hp} {s2 s' : Shared} {fp : List Addr} {scope : Scope} {N : List Str} {cl : List (Str × Addr)} {C : Addr} {σ' : St} {pn : List (Addr × Obj)} (I2 : Inv X pins σ H2 s2) (f2 : ∀ b ∈ fp, FpOk X pins H2 b)
    (J : Inv (cxComp X scope N cl C s2 H2 fp pn) [] σ' H' s') : Inv X pins σ H' s' :=
  I2.call' (s' := s') (ch := fp) J.os J.base J.hok J.bare fun b hb => ⟨(f2 b hb).2.2.2.1, (f2 b hb).2.1, (f2 b hb).2.2.2.2.1, (f2 b hb).2.2.2.2.2⟩
/-- the block's names go -/
theorem Inv.gone {H : Hp} {s : Shared} {C : Addr} {h' : Heap} (I : Inv X pins σ H s) (hs : Heap.SameBut C s.heap h') (hn : H C = none) (h0 : X.s₀.heap.objs.size ≤ C) (hL : C ≠ X.env.locals) (h2 : ∀ x c, X.env.cells.lookup x = some c → c ≠ C) (h3 : ∀ p ∈ X.pn ++ pins, p.1 ≠ C) :
    Inv X pins σ H { s with heap := h' } := I.turned (t' := s.toks) (fun b o hb e => (hs.2 b hb).trans e) hn hL (.inr h0) h2 h3
end

theorem free_of_relabel {env : Env} {scope : Scope} {x : Str} (hcell : ∀ y ∈ scope.names, y.2 ≠ .cell) (h : (relabel scope env).names.lookup x = some .cell ∨ (relabel scope env).names.lookup x = some .free) : (x, NameKind.free) ∈ scope.names := by
  have all : ∀ k, (relabel scope env).names.lookup x = some k → (k = .cell ∨ k = .free) → (x, NameKind.free) ∈ scope.names := by
    intro k e hk
    have m := mem_of_lk e
    obtain ⟨⟨n, j⟩, hm, q⟩ := List.mem_map.mp (show (x, k) ∈ scope.names.map _ from m)
    dsimp only at q
    by_cases c : (j == NameKind.free && env.scope.kind == .function && env.kindOf n == some .cell) = true
    · rw [if_pos c] at q
      injection q with q1 q2
      subst q1
      have jf : j = .free := by
        simp only [Bool.and_eq_true] at c
        exact eq_of_beq c.1.1
      rw [← jf]; exact hm
    · rw [if_neg c] at q
      injection q with q1 q2
      subst q1 q2
      rcases hk with z | z
      · exact absurd z (hcell _ hm)
      · rw [z] at hm; exact hm
  rcases h with h | h
  · exact all _ h (.inl rfl)
  · exact all _ h (.inr rfl)

/-! ## What a comprehension walks, for the contexts that Z lets through (calm ones; or ones that handle an exception) -/
structure Steps (Y : Cx) (tg : Expr) (J : It) (fp : List Addr) (it : Addr) (tn : Nat → Heap → Prop) : Prop where
  item : ∀ (i : Nat) (pins : List (Addr × Obj)) (s : Shared) (σ : St) (H : Hp) (E : Value → Shared → Prop), Inv Y pins σ H s → (∀ b ∈ fp, FpOk Y pins H b) → tn i s.heap → J.go i H →
    wpAny (model Y.prog Y.w) Y.A (pyNext (.ref it)) (fun r s1 => ∃ u, r = some u ∧
      wpAny (model Y.prog Y.w) Y.A (letOwnedTupleGo tg (.ref it) u) (fun _ s2 => ∃ x H', Inv Y pins σ H' s2 ∧ RelV x u ∧ J.yld i H x H' ∧ tn (i + 1) s2.heap ∧ ∀ b ∈ fp, H' b = none) E s1) E s
  done : ∀ (i : Nat) (pins : List (Addr × Obj)) (s : Shared) (σ : St) (H : Hp) (E : Value → Shared → Prop), Inv Y pins σ H s → (∀ b ∈ fp, FpOk Y pins H b) → tn i s.heap → J.stop i H →
    wpAny (model Y.prog Y.w) Y.A (pyNext (.ref it)) (fun r s1 => r = none ∧ Inv Y pins σ H s1) E s
structure Trn (P : Program) (w : World) (K : PySem.W.Frag) (Z : Cx → Prop) (tg : Expr) (J : It) (fp : List Addr) (it : Addr) (tn : Nat → Heap → Prop) : Prop where
  obj : ∀ i h, tn i h → ∀ b ∈ fp, ∃ o, h.get? b = some o ∧ ∀ v, o.data ≠ .cell v
  keep : ∀ i h h', tn i h → (∀ b ∈ fp, ∀ o, h.get? b = some o → h'.get? b = some o) → tn i h'
  steps : ∀ Y : Cx, Y.prog = P → Y.w = w → Y.K = K → Z Y → Steps Y tg J fp it tn
  self : ∀ (A : Around) (i : Nat) (s : Shared) (Q : Value → Shared → Prop) (E : Value → Shared → Prop), tn i s.heap → Q (.ref it) s → wpAny (model P w) A (pyIter (.ref it)) Q E s
def PIEq (Z : Cx → Prop) (X : Cx) (pins : List (Addr × Obj)) (σ : St) (tg : Expr) (R : It → Hp → Prop) (itv : Value) (s2 : Shared) : Prop :=
  ∃ (it : Addr) (fp : List Addr) (tn : Nat → Heap → Prop) (J : It) (H' : Hp), itv = .ref it ∧ Inv X pins σ H' s2 ∧ Trn X.prog X.w X.K Z tg J fp it tn ∧ tn 0 s2.heap ∧ (∀ b ∈ fp, FpOk X pins H' b) ∧ R J H'
def PIq (Z : Cx → Prop) (X : Cx) (tg iter : Expr) (wi : TI) : Prop :=
  ∀ (pins : List (Addr × Obj)) (s : Shared) (σ : St) (H : Hp) (R : It → Hp → Prop), Inv X pins σ H s → wi σ H R →
    wpAny (model X.prog X.w) X.A (eval iter X.env) (fun v s1 => wpAny (model X.prog X.w) X.A (pyIter v) (PIEq Z X pins σ tg R) X.xe s1) X.xe s
theorem PI.q {X : Cx} {tg iter : Expr} {wi : TI} (h : PI X tg iter wi) : PIq (fun Y => Y.calm = true) X tg iter wi := fun pins s σ H R I q =>
  thn (h pins s σ H R I q) fun v s1 h1 => thn h1 fun itv s2 h2 => by
    obtain ⟨it, fp, tn, J, H', e, I', T, t0, f, r⟩ := h2
    exact ⟨it, fp, tn, J, H', e, I', ⟨T.obj, T.keep, fun Y hP hw hK hz => ⟨fun i pins s σ H E => hP ▸ hw ▸ T.item Y hP hw hK hz i pins s σ H E, fun i pins s σ H E => hP ▸ hw ▸ T.done Y hP hw hK hz i pins s σ H E⟩, T.self⟩, t0, f, r⟩

section
variable {X : Cx} {elt target iter : Expr} {ifs : List Expr} {scope : Scope} {pos : Pos} {own : List Str} {caps : List (Nat × Str)} {wi : TI} {g : TG} {tf : TT} {te : TE}
/-- what a comprehension's scope must be: no cells of its own, its locals there, what is free is a cell without -/
structure CompScope (X : Cx) (scope : Scope) (caps : List (Nat × Str)) : Prop where
  kind : scope.kind = .function
  cell : (scope.names.all fun y => !(y.2 == .cell)) = true
  names : (scope.names.all fun y => !(y.2 == .local) || scope.names.lookup y.1 == some .local) = true
  free : (scope.names.all fun y => !(y.2 == .free) || (X.env.scope.names.lookup y.1 == some .cell || X.env.scope.names.lookup y.1 == some .free)) = true
  caps : CapsOk X scope caps
theorem comp_core {use : Option (Value → Sem Unit)} {R : Value → Shared → Prop} {pins : List (Addr × Obj)} {σ : St} {s : Shared} {H : Hp} {Q : VK} (Z : Cx → Prop) (hc : ∀ cl C s H fp pins, Z (cxComp X scope (own ++ caps.map (·.2)) cl C s H fp (X.pn ++ pins))) (S : CompScope X scope caps) (hi : PIq Z X target iter wi)
    (hg : ∀ cl C s H fp pn, PG (cxComp X scope (own ++ caps.map (·.2)) cl C s H fp pn) target g)
    (ht : ∀ cl C s H fp pn, PTs (cxComp X scope (own ++ caps.map (·.2)) cl C s H fp pn) ifs tf)
    (he : ∀ cl C s H fp pn, PE (cxComp X scope (own ++ caps.map (·.2)) cl C s H fp pn) elt te)
    (I : Inv X pins σ H s) (h : tComp wi own caps g tf te σ H Q)
    (fin : ∀ D C H' s' m, Inv X pins σ H' s' → s'.heap.Ns C m → H' C = none → X.s₀.heap.objs.size ≤ C → C ≠ X.env.locals → (∀ x c, X.env.cells.lookup x = some c → c ≠ C) → (∀ p ∈ X.pn ++ pins, p.1 ≠ C) → Q (.ref D) H' →
      compPost (model X.prog X.w) X.A X.xe use R (.ref D) C (.ok .next) s')
    (hs : ∀ x, foldedSetIterable iter X.env x = pure x) :
    wpAny (model X.prog X.w) X.A (comprehension (.ListComp elt [⟨target, iter, ifs, 0⟩] scope pos) scope X.env (firstIterPos [⟨target, iter, ifs, 0⟩] pos) (newList []) false (eval iter X.env) use) R X.xe s := by
  have hcell : ∀ y ∈ scope.names, y.2 ≠ .cell := fun y hy z => by
    have := List.all_eq_true.mp S.cell y hy
    rw [z] at this; cases this
  have hnames : ∀ y ∈ scope.names, y.2 = .local → scope.names.lookup y.1 = some .local := fun y hy z => by
    have := List.all_eq_true.mp S.names y hy
    rw [z] at this
    simpa using this
  have hfree : ∀ y ∈ scope.names, y.2 = .free → X.env.scope.names.lookup y.1 = some .cell ∨ X.env.scope.names.lookup y.1 = some .free := fun y hy z => by
    have := List.all_eq_true.mp S.free y hy
    rw [z] at this
    simpa using this
  obtain ⟨cl, hclos, hcl0, hcl1⟩ := closure_ok (env := X.env) (scope := scope) fun y hy z => I.ok.has y.1 (hfree y hy z)
  have hcl : ∀ x c, cl.lookup x = some c → X.env.cells.lookup x = some c := fun x c e => (hcl0 x c (mem_of_lk e)).2
  have hhas : ∀ x, ((relabel scope X.env).names.lookup x = some .cell ∨ (relabel scope X.env).names.lookup x = some .free) → ∃ c, cl.lookup x = some c := fun x hx => by
    obtain ⟨c, hm⟩ := hcl1 x (free_of_relabel hcell hx)
    exact lk_of_mem hm
  refine wpAny_comprehension_free (g := ⟨target, iter, ifs, 0⟩) (gs := []) rfl hs hclos S.kind hnames (thn (hi pins s σ H _ I h) fun v s1 h1 => thn h1 fun itv s2 h2 => ?_)
  obtain ⟨it, fp, tn, J, H2, e, I2, T, st2, f2, cont⟩ := h2
  subst e
  obtain ⟨W, ⟨m0, w0⟩, turn⟩ := cont s2.heap.objs.size (I2.hok.fresh (Nat.le_refl _))
  refine wpAny_newObj_type (wpAny_newFunctionEnv hcell (by intro y hy; simp at hy) (fun h₁ hns₁ hsb₁ => ?_) S.kind)
  dsimp only at hns₁ hsb₁ ⊢
  generalize hH2 : s2.heap.push { cls := .type "list", dict := none, data := .seq ([] : List Value).toArray } = HL at hns₁ hsb₁ ⊢
  have hC : HL.objs.size = s2.heap.objs.size + 1 := by rw [← hH2, Heap.size_push]
  have hfs : ∀ b ∈ fp, b < s2.heap.objs.size := fun b hb => let ⟨_, e, _⟩ := T.obj 0 _ st2 b hb; Heap.lt_size e
  have old : ∀ b o, s2.heap.get? b = some o → h₁.get? b = some o := fun b o e =>
    hsb₁.extBut b o (by rw [hC]; exact Nat.ne_of_lt (Nat.lt_succ_of_lt (Heap.lt_size e))) (Heap.get?_push_of_some _ (hH2 ▸ Heap.get?_push_of_some _ e))
  have hlst : ∃ n, h₁.get? s2.heap.objs.size = some { cls := .type "list", data := .seq #[] n } := ⟨_, hsb₁.extBut _ _ (by rw [hC]; exact Nat.ne_of_lt (Nat.lt_succ_self _)) (Heap.get?_push_of_some _ (hH2 ▸ Heap.get?_push_size _ rfl))⟩
  have I4 : Inv (cxComp X scope (own ++ caps.map (·.2)) cl HL.objs.size s2 H2 fp (X.pn ++ pins)) [] (capSt own caps σ) (upd H2 s2.heap.objs.size (.lst [])) { s2 with heap := h₁, toks := s2.toks + ([] : List (Str × Value)).length } :=
    comp_start I2 f2 hC rfl hfs S.kind hcl hhas S.caps hns₁ old hlst
  have st4 : tn 0 h₁ := T.keep 0 _ _ st2 fun b hb o e => old b o e
  have fr4 : ∀ b ∈ fp, upd H2 s2.heap.objs.size (.lst []) b = none := fun b hb => by
    rw [upd_ne (Nat.ne_of_lt (hfs b hb))]; exact (f2 b hb).1
  have hCs : s2.heap.objs.size < HL.objs.size := by rw [hC]; exact Nat.lt_succ_self _
  have loop : codeAny (model X.prog X.w) X.A (.compLoop (.ListComp elt [⟨target, iter, ifs, 0⟩] scope pos) 0 (.ref it) (.ref s2.heap.objs.size) (compEnvC scope cl HL.objs.size X.env))
      (compPost (model X.prog X.w) X.A X.xe use R (.ref s2.heap.objs.size) HL.objs.size) { s2 with heap := h₁, toks := s2.toks + ([] : List (Str × Value)).length } := by
    refine comp_loop (fun n s' => ∃ i σ' H', Inv (cxComp X scope (own ++ caps.map (·.2)) cl HL.objs.size s2 H2 fp (X.pn ++ pins)) [] σ' H' s' ∧ tn i s'.heap ∧ (∀ b ∈ fp, H' b = none) ∧ W i n σ' H') ?_ m0 ⟨0, _, _, I4, st4, fr4, w0⟩
    have U := T.steps (cxComp X scope (own ++ caps.map (·.2)) cl HL.objs.size s2 H2 fp (X.pn ++ pins)) rfl rfl rfl (hc _ _ _ _ _ _)
    rintro n s3 ⟨i, σ3, H3, I3, st3, fr3, w3⟩
    have stat : ∀ {H' : Hp}, (∀ b ∈ fp, H' b = none) → ∀ b ∈ fp, FpOk (cxComp X scope (own ++ caps.map (·.2)) cl HL.objs.size s2 H2 fp (X.pn ++ pins)) [] H' b := fun {H'} hn b hb => by
      refine ⟨hn b hb, (I3.ok.exf b hb).1, I3.ok.exfs b hb, .inl hb, (I3.ok.exf b hb).2, fun p hp => ?_⟩
      have hp' : p ∈ X.pn ++ pins := by
        have hp2 : p ∈ (X.pn ++ pins) ++ [] := hp
        rwa [List.append_nil] at hp2
      exact (f2 b hb).2.2.2.2.2 p hp'
    rcases turn i n σ3 H3 w3 with ⟨stop, qn⟩ | ⟨go, step⟩
    · refine thn (U.done i [] s3 σ3 H3 _ I3 (stat fr3) st3 stop) fun r s4 ⟨hr, I4⟩ => ?_
      subst hr
      obtain ⟨m, hm, _⟩ := I4.loc
      refine fin s2.heap.objs.size HL.objs.size H3 s4 m (comp_back I2 f2 I4) hm I4.free (Nat.le_trans I2.sz (Nat.le_of_lt hCs)) (Nat.ne_of_gt (Nat.lt_trans I2.lt hCs)) (fun x c e z => ?_) (fun p hp z => ?_) qn
      · obtain ⟨v, q⟩ := I2.cell x c e
        exact absurd (Nat.lt_trans q.lt hCs) (by rw [z]; exact Nat.lt_irrefl _)
      · exact absurd (Nat.lt_trans (Heap.lt_size (I2.pin p hp).1) hCs) (by rw [z]; exact Nat.lt_irrefl _)
    · refine thn (U.item i [] s3 σ3 H3 _ I3 (stat fr3) st3 go) fun r s4 ⟨u, hr, h4⟩ => ?_
      subst hr
      refine thn h4 fun _ s5 ⟨x, H5, I5, r5, y5, st5, fr5⟩ => ?_
      have I5' := I5.pinned (stat fr5) (T.obj _ _ st5)
      refine thn (hg cl HL.objs.size s2 H2 fp (X.pn ++ pins) _ s5 σ3 H5 x u _ I5' r5 (step x H5 y5)) fun _ s6 ⟨σ6, H6, I6, q6⟩ => ?_
      refine thn (ht cl HL.objs.size s2 H2 fp (X.pn ++ pins) _ s6 σ6 H6 _ I6 q6) fun b s7 ⟨H7, I7, q7⟩ => ?_
      have again : ∀ {σ8 : St} {H8 : Hp} {s8 : Shared} {m' : Nat}, Inv (cxComp X scope (own ++ caps.map (·.2)) cl HL.objs.size s2 H2 fp (X.pn ++ pins)) ([] ++ pinsAt fp s5.heap) σ8 H8 s8 → m' < n → W (i + 1) m' σ8 H8 →
          ∃ m, m < n ∧ ∃ i σ' H', Inv (cxComp X scope (own ++ caps.map (·.2)) cl HL.objs.size s2 H2 fp (X.pn ++ pins)) [] σ' H' s8 ∧ tn i s8.heap ∧ (∀ b ∈ fp, H' b = none) ∧ W i m σ' H' := fun {σ8 H8 s8 m'} I8 hm w8 => by
        refine ⟨m', hm, i + 1, σ8, H8, I8.unpinned, T.keep _ _ _ st5 fun b hb o e => (I8.pin (b, o) (List.mem_append_right _ (List.mem_append_right _ (mem_pinsAt hb e)))).1, fun b hb => ?_, w8⟩
        obtain ⟨o, e, d⟩ := T.obj _ _ st5 b hb
        exact (I8.pin (b, o) (List.mem_append_right _ (List.mem_append_right _ (mem_pinsAt hb e)))).2.1
      cases b with
      | false =>
        rw [if_neg Bool.false_ne_true] at q7 ⊢
        obtain ⟨m', hm, w7⟩ := q7
        exact again I7 hm w7
      | true =>
        rw [if_pos rfl] at q7 ⊢
        refine thn (he cl HL.objs.size s2 H2 fp (X.pn ++ pins) _ s7 σ6 H7 _ I7 q7) fun y s8 ⟨v, H8, I8, r8, ys, hy, hz, m', hm, w8⟩ => ?_
        refine thn (mt_append _ s8 σ6 H8 (.ref s2.heap.objs.size) [v] (.ref s2.heap.objs.size) [y] (fun _ H9 => H9 = upd H8 s2.heap.objs.size (.lst (ys ++ [v]))) I8 rfl (.cons r8 .nil) ⟨_, ys, v, rfl, rfl, hy, hz, rfl⟩) fun z s9 ⟨_, H9, I9, _, e9⟩ => ?_
        subst e9
        exact again I9 hm w8
  exact codeAny_compStart_list loop (T.self _ 0 _ _ _ st4 loop)
/-- [elt for target in iter if ..] -/
theorem pe_comp (hc : X.calm = true) (S : CompScope X scope caps) (hi : PI X target iter wi)
    (hg : ∀ cl C s H fp pn, PG (cxComp X scope (own ++ caps.map (·.2)) cl C s H fp pn) target g)
    (ht : ∀ cl C s H fp pn, PTs (cxComp X scope (own ++ caps.map (·.2)) cl C s H fp pn) ifs tf)
    (he : ∀ cl C s H fp pn, PE (cxComp X scope (own ++ caps.map (·.2)) cl C s H fp pn) elt te)
    (hs : ∀ x, foldedSetIterable iter X.env x = pure x := by intro _; rfl) : PE X (.ListComp elt [⟨target, iter, ifs, 0⟩] scope pos) (tComp wi own caps g tf te) := by
  intro pins s σ H Q I h
  rw [eval_ListComp]
  refine comp_core (Q := Q) (fun Y => Y.calm = true) (fun _ _ _ _ _ _ => hc) S hi.q hg ht he I h (fun D C H' s' m I' hm hn h0 hL h2 h3 q => ?_) hs
  exact ⟨m, hm, fun h' hs' => ⟨.ref D, H', I'.gone hs' hn h0 hL h2 h3, rfl, q⟩⟩
theorem pe_compq (Z : Cx → Prop) (hc : ∀ cl C s H fp pins, Z (cxComp X scope (own ++ caps.map (·.2)) cl C s H fp (X.pn ++ pins))) (S : CompScope X scope caps) (hi : PIq Z X target iter wi)
    (hg : ∀ cl C s H fp pn, PG (cxComp X scope (own ++ caps.map (·.2)) cl C s H fp pn) target g)
    (ht : ∀ cl C s H fp pn, PTs (cxComp X scope (own ++ caps.map (·.2)) cl C s H fp pn) ifs tf)
    (he : ∀ cl C s H fp pn, PE (cxComp X scope (own ++ caps.map (·.2)) cl C s H fp pn) elt te)
    (hs : ∀ x, foldedSetIterable iter X.env x = pure x := by intro _; rfl) : PE X (.ListComp elt [⟨target, iter, ifs, 0⟩] scope pos) (tComp wi own caps g tf te) := by
  intro pins s σ H Q I h
  rw [eval_ListComp]
  refine comp_core (Q := Q) Z hc S hi hg ht he I h (fun D C H' s' m I' hm hn h0 hL h2 h3 q => ?_) hs
  exact ⟨m, hm, fun h' hs' => ⟨.ref D, H', I'.gone hs' hn h0 hL h2 h3, rfl, q⟩⟩
end
end L2

namespace L2
open PySem PySem.Spec PyProof.Rows

/-! ## The signs of a text, one after another -/
def sgn (c : Nat) : V := .str ⟨#[c]⟩
def Its (x : Str) : It := ⟨fun i _ => i < x.cps.size, fun i H v H' => H' = H ∧ ∃ c, x.cps[i]? = some c ∧ v = sgn c, fun i _ => i = x.cps.size⟩
theorem turn_str {P : Program} {w : World} {K : PySem.W.Frag} {tg : Expr} (it : Addr) (x : Str) (t : Tok) (ty : String)
    (hty : ["enumerate", "zip", "dict_itemiterator", "dict_reverseitemiterator", "odict_iterator", "itertools.zip_longest", "itertools.pairwise"].contains ty = false)
    (W : ∀ A : Around, A.handled = none → Walks P w A it [it] [it] x.cps.size (SignAt x) (fun i h => h.IsStrIter it ty x t i))
    (sf : ∀ (A : Around) (i : Nat) (s : Shared) (Q : Value → Shared → Prop) (E : Value → Shared → Prop), s.heap.IsStrIter it ty x t i → Q (.ref it) s → wpAny (model P w) A (pyIter (.ref it)) Q E s) :
    Turn P w K tg (Its x) [it] it (fun i h => h.IsStrIter it ty x t i) where
  mem := by simp
  obj := fun i h st b hb => by
    have e : b = it := by simpa using hb
    subst e
    obtain ⟨o, e, c, d⟩ := st
    exact ⟨o, e, fun v z => by rw [d] at z; cases z⟩
  keep := fun i h h' st k => by
    obtain ⟨o, e, r⟩ := st
    exact ⟨o, k it (by simp) o e, r⟩
  item := by
    intro X hP hw hK hc i pins s σ H E I hf st hg
    subst hP hw hK
    obtain ⟨f0, f1, f2, f3, f4, f5⟩ := hf it (by simp)
    refine (W X.A (I.ok.hd hc)).item i s _ _ hg st fun v h' tk hv st' kk => ?_
    obtain ⟨c, u, hc', rfl⟩ := hv
    have I1 : Inv X pins σ H { s with heap := h', toks := tk } := I.turned (fun b o hb e => kk b o (by simpa using hb) e) f0 f1 f3 f4 f5
    obtain ⟨o, e, cc, d⟩ := id st'
    exact ⟨_, rfl, go_of (s := { s with heap := h', toks := tk }) e cc d hty ⟨sgn c, H, I1, ⟨u, rfl⟩, ⟨rfl, c, hc', rfl⟩, st', fun b hb => (hf b hb).1⟩⟩
  done := by
    intro X hP hw hK hc i pins s σ H E I hf st hg
    subst hP hw hK
    obtain ⟨f0, f1, f2, f3, f4, f5⟩ := hf it (by simp)
    have hi : i = x.cps.size := hg
    subst hi
    exact (W X.A (I.ok.hd hc)).done s _ _ st fun h' tk kk => ⟨rfl, I.turned (fun b o hb e => kk b o (by simpa using hb) e) f0 f1 f3 f4 f5⟩
  self := fun A i s Q E st h => sf A i s Q E st h

section
variable {X : Cx} {tg : Expr}
def iStr (tl : TE) : TI := fun σ H R => tl σ H fun v H1 => ∃ x, v = .str x ∧ R (Its x) H1
theorem pi_str {l : Expr} {tl : TE} (hl : PE X l tl) : PI X tg l (iStr tl) := by
  intro pins s σ H R I h
  refine thn (hl pins s σ H _ I h) fun v s1 ⟨y, H1, I1, r1, q1⟩ => ?_
  obtain ⟨x, e, q⟩ := q1
  subst e
  obtain ⟨t, rfl⟩ := r1
  have hf : ∀ o : Obj, ∀ b ∈ [s1.heap.objs.size], FpOk X pins H1 b := fun o b hb => by
    have e : b = s1.heap.objs.size := by simpa using hb
    subst e
    exact I1.fpOk (Nat.le_refl _) (I1.hok.fresh (Nat.le_refl _))
  cases ha : x.cps.all (· < 128)
  · exact wpAny_pyIter_wide ha ⟨s1.heap.objs.size, [s1.heap.objs.size], _, _, H1, rfl, I1.kept (t' := s1.toks) fun b o e => Heap.get?_push_of_some _ e,
      turn_str _ x t "str_iterator" (by decide) (fun A hA => Walks.strWide hA _ x t) (fun A i s Q E st h => wpAny_pyIter_striter_wide st h), ⟨_, Heap.get?_push_size _ rfl, rfl, rfl⟩, hf default, q⟩
  · exact wpAny_pyIter_ascii ha ⟨s1.heap.objs.size, [s1.heap.objs.size], _, _, H1, rfl, I1.kept (t' := s1.toks) fun b o e => Heap.get?_push_of_some _ e,
      turn_str _ x t "str_ascii_iterator" (by decide) (fun A hA => Walks.strAscii hA _ x t) (fun A i s Q E st h => wpAny_pyIter_striter_ascii st h), ⟨_, Heap.get?_push_size _ rfl, rfl, rfl⟩, hf default, q⟩
end

/-! ## What an iterator gives, as a list -/
structure Gives (J : It) (Ok : Hp → Prop) (L : List V) : Prop where
  go : ∀ i H, Ok H → i < L.length → J.go i H
  yld : ∀ i H x H', Ok H → J.yld i H x H' → i < L.length → H' = H ∧ L[i]? = some x
  stop : ∀ H, Ok H → J.stop L.length H
theorem gives_range (lo : Int) (n : Nat) : Gives (Itr lo n) (fun _ => True) ((List.range n).map fun i => V.int (lo + (i : Nat))) where
  go := fun i H _ h => by
    have : i < n := by simpa using h
    exact this
  yld := fun i H x H' _ y h => by
    obtain ⟨e, rfl⟩ := y
    have : i < n := by simpa using h
    exact ⟨e, by simp [this]⟩
  stop := fun H _ => by
    show n ≤ _
    simp
theorem gives_str (x : Str) : Gives (Its x) (fun _ => True) (x.cps.toList.map sgn) where
  go := fun i H _ h => by
    have : i < x.cps.size := by simpa using h
    exact this
  yld := fun i H v H' _ y h => by
    obtain ⟨e, c, hc, rfl⟩ := y
    refine ⟨e, ?_⟩
    rw [List.getElem?_map]
    simp [hc]
  stop := fun H _ => by
    show _ = x.cps.size
    simp
theorem gives_list (K : PySem.W.Frag) (a : Addr) (xs : List V) : Gives (Itl K a) (fun H => SqL K H a xs) xs where
  go := fun i H q h => ⟨xs, xs[i], q, by simp [h]⟩
  yld := fun i H v H' q y h => ⟨y.1, y.2 xs q⟩
  stop := fun H q => ⟨xs, q, Nat.le_refl _⟩
theorem gives_tup (K : PySem.W.Frag) (a : Addr) (xs : List V) : Gives (Itt K a) (fun H => SqT K H a xs) xs where
  go := fun i H q h => ⟨xs, xs[i], q, by simp [h]⟩
  yld := fun i H v H' q y h => ⟨y.1, y.2 xs q⟩
  stop := fun H q => ⟨xs, q, Nat.le_refl _⟩

/-- a for over what is given, by what holds ahead of each turn -/
theorem for_g {J : It} {Ok : Hp → Prop} {L : List V} {g : TG} {tb : TS} {D : Ends} {σ : St} {H : Hp} (G : Gives J Ok L) (Pv : Nat → St → Hp → Prop) (h0 : Pv 0 σ H) (hk : ∀ i σ H, i ≤ L.length → Pv i σ H → Ok H)
    (hs : ∀ i x σ H, L[i]? = some x → Pv i σ H → g x σ H fun σ2 H2 => tb { D with nx := Pv (i + 1), ct := Pv (i + 1), bk := D.nx } σ2 H2) (hd : ∀ σ H, Pv L.length σ H → D.nx σ H) :
    ∃ W : Nat → Nat → St → Hp → Prop, (∃ m, W 0 m σ H) ∧ ∀ i m σ H, W i m σ H →
      (J.stop i H ∧ D.nx σ H) ∨ (J.go i H ∧ ∃ N : St → Hp → Prop, (∀ σ' H', N σ' H' → ∃ m', m' < m ∧ W (i + 1) m' σ' H') ∧ ∀ x H', J.yld i H x H' → g x σ H' fun σ2 H2 => tb { D with nx := N, ct := N, bk := D.nx } σ2 H2) := by
  refine ⟨fun i m σ H => m = L.length - i ∧ i ≤ L.length ∧ Pv i σ H, ⟨L.length, by simp, Nat.zero_le _, h0⟩, ?_⟩
  rintro i m σ H ⟨rfl, hi, p⟩
  have q := hk i σ H hi p
  by_cases hlt : i < L.length
  · refine .inr ⟨G.go i H q hlt, Pv (i + 1), fun σ' H' p' => ⟨L.length - (i + 1), by omega, rfl, hlt, p'⟩, fun x H' y => ?_⟩
    obtain ⟨e, yy⟩ := G.yld i H x H' q y hlt
    subst e
    exact hs i x σ _ yy p
  · have e : i = L.length := by omega
    subst e
    exact .inl ⟨G.stop H q, hd σ H p⟩
/-- a comprehension over what is given: a turn that keeps, a turn that skips -/
def CNext (D : Addr) (L : List V) (Pv : Nat → List V → St → Hp → Prop) (i : Nat) (σ2 : St) (v : V) (H5 : Hp) : Prop :=
  ∃ ys, H5 D = some (.lst ys) ∧ ys.length < sizeLine ∧ ∃ m', m' < L.length - i ∧ (m' = L.length - (i + 1) ∧ i + 1 ≤ L.length ∧ ∃ xs, Pv (i + 1) xs σ2 (upd H5 D (.lst (ys ++ [v]))))
def CSkip (L : List V) (Pv : Nat → List V → St → Hp → Prop) (i : Nat) (σ2 : St) (H4 : Hp) : Prop :=
  ∃ m', m' < L.length - i ∧ (m' = L.length - (i + 1) ∧ i + 1 ≤ L.length ∧ ∃ xs, Pv (i + 1) xs σ2 H4)
theorem CNext.of {D : Addr} {L : List V} {Pv : Nat → List V → St → Hp → Prop} {i : Nat} {σ2 : St} {v : V} {H5 : Hp} {xs : List V} (hi : i < L.length) (hL : L.length ≤ sizeLine) (h5 : H5 D = some (.lst xs)) (hx : xs.length ≤ i) (p : Pv (i + 1) (xs ++ [v]) σ2 (upd H5 D (.lst (xs ++ [v])))) : CNext D L Pv i σ2 v H5 :=
  ⟨xs, h5, by omega, L.length - (i + 1), by omega, rfl, hi, _, p⟩
theorem CSkip.of {L : List V} {Pv : Nat → List V → St → Hp → Prop} {i : Nat} {σ2 : St} {H4 : Hp} {xs : List V} (hi : i < L.length) (p : Pv (i + 1) xs σ2 H4) : CSkip L Pv i σ2 H4 := ⟨L.length - (i + 1), by omega, rfl, hi, _, p⟩
theorem comp_g {J : It} {Ok : Hp → Prop} {L : List V} {g : TG} {tf : TT} {te : TE} {D : Addr} {σ0 : St} {H1 : Hp} {Q : VK} (G : Gives J Ok L) (Pv : Nat → List V → St → Hp → Prop) (h0 : Pv 0 [] σ0 (upd H1 D (.lst [])))
    (hk : ∀ i xs σ H, i ≤ L.length → Pv i xs σ H → Ok H)
    (hs : ∀ i x xs σ H, i < L.length → L[i]? = some x → Pv i xs σ H → g x σ H fun σ2 H3 => tf σ2 H3 fun b H4 => if b = true then te σ2 H4 fun v H5 => CNext D L Pv i σ2 v H5 else CSkip L Pv i σ2 H4)
    (hd : ∀ xs σ H, Pv L.length xs σ H → Q (.ref D) H) :
    CompW J D σ0 H1 g tf te Q := by
  refine ⟨fun i m σ H => m = L.length - i ∧ i ≤ L.length ∧ ∃ xs, Pv i xs σ H, ⟨L.length, by simp, Nat.zero_le _, [], h0⟩, ?_⟩
  rintro i m σ H ⟨rfl, hi, xs, p⟩
  have q := hk i xs σ H hi p
  by_cases hlt : i < L.length
  · refine .inr ⟨G.go i H q hlt, fun x H' y => ?_⟩
    obtain ⟨e, yy⟩ := G.yld i H x H' q y hlt
    subst e
    exact hs i x xs σ _ hlt yy p
  · have e : i = L.length := by omega
    subst e
    exact .inl ⟨G.stop H q, hd xs σ H p⟩

theorem Same.put {H0 H : Hp} {p : Addr} {o : HO} (s : Same H0 H) (n : H0 p = none) : Same H0 (upd H p o) := fun b u e => by
  rw [upd_ne (ne_of_none e n)]
  exact s b u e
theorem Same.new {H : Hp} {p : Addr} {o : HO} (n : H p = none) : Same H (upd H p o) := (Same.refl H).put n
theorem Same.tup {K : PySem.W.Frag} {H H' : Hp} {a : Addr} {xs : List V} (e : Same H H') (h : SqT K H a xs) : SqT K H' a xs := by
  rcases h with (h | ⟨o, h⟩) | h
  · exact .inl (.inl (e _ _ h))
  · exact .inl (.inr ⟨o, e _ _ h⟩)
  · exact .inr h
theorem take_snoc {α : Type} {l : List α} {i : Nat} {x : α} (h : l[i]? = some x) : l.take (i + 1) = l.take i ++ [x] := by
  rw [List.take_add_one, h]
  rfl
/-- a comprehension whose tests and elements are scalars that hang on the item alone; the heap may grow -/
theorem comp_s {J : It} {Ok : Hp → Prop} {L : List V} {tf : TT} {te : TE} {D : Addr} {σ0 capv : St} {H1 : Hp} {Q : VK} (hσ : σ0 = none :: capv) (G : Gives J Ok L) (hL : L.length ≤ sizeLine) (hD : H1 D = none) (hOk : ∀ H, Same H1 H → Ok H) (p : V → Bool) (F : V → V)
    (ht : ∀ x ∈ L, ∀ H R, Same H1 H → (∀ H', Same H H' → R (p x) H') → tf (some x :: capv) H R)
    (he : ∀ x ∈ L, p x = true → ∀ H R, Same H1 H → (∀ H', Same H H' → R (F x) H') → te (some x :: capv) H R)
    (hd : ∀ H, Same H1 H → H D = some (.lst ((L.filter p).map F)) → Q (.ref D) H) :
    CompW J D σ0 H1 (gName 0) tf te Q := by
  subst hσ
  refine comp_g G (fun i xs σ H => (∃ o, σ = o :: capv) ∧ Same H1 H ∧ H D = some (.lst xs) ∧ xs = ((L.take i).filter p).map F) ⟨⟨none, rfl⟩, Same.new hD, upd_same, by simp⟩ (fun i xs σ H _ h => hOk H h.2.1) ?_ ?_
  · rintro i x xs σ H hi hx ⟨⟨o, rfl⟩, s, e, exs⟩
    have hm : x ∈ L := List.mem_of_getElem? hx
    have hxl : xs.length ≤ i := by
      rw [exs, List.length_map]
      exact Nat.le_trans (List.length_filter_le _ _) (by rw [List.length_take]; omega)
    show tf (some x :: capv) H _
    refine ht x hm H _ s fun H' s' => ?_
    cases hp : p x with
    | true =>
      rw [if_pos rfl]
      refine he x hm hp H' _ (s.trans s') fun H'' s'' => ?_
      have e'' : H'' D = some (.lst xs) := s'' _ _ (s' _ _ e)
      refine CNext.of hi hL e'' hxl ⟨⟨some x, rfl⟩, ((s.trans s').trans s'').put hD, upd_same, ?_⟩
      rw [take_snoc hx, List.filter_append, List.map_append, exs]
      simp [hp]
    | false =>
      rw [if_neg Bool.false_ne_true]
      refine CSkip.of hi ⟨⟨some x, rfl⟩, s.trans s', s' _ _ e, ?_⟩
      rw [take_snoc hx, List.filter_append, List.map_append, exs]
      simp [hp]
  · rintro xs σ H ⟨_, s, e, exs⟩
    refine hd H s ?_
    rw [e, exs, List.take_length]
end L2

namespace L2
open PySem PySem.Spec PyProof.Rows

/-! ## Built-ins over a list or tuple: all, any, max, min, sum, set -/
/-- the walk over a list, behind which all that was there still stands -/
theorem walk_list {P : Program} {w : World} {A : Around} {E : Value → Shared → Prop} {s : Shared} {a : Addr} {its : List Value} {Q : Value → Shared → Prop} (hh : A.handled = none) (hl : s.heap.IsList a its.toArray)
    (h : ∀ (I : Addr) (s2 : Shared), s2 = { s with heap := s.heap.push { cls := .type "list_iterator", data := .fields #[.ref a, .int 0 0] } } → I = s.heap.objs.size →
      Walks P w A I [I, a] [I] its.length (fun i v => its[i]? = some v) (fun i h => h.IsListIter I a i ∧ h.IsList a its.toArray) → (s2.heap.IsListIter I a 0 ∧ s2.heap.IsList a its.toArray) → (∀ b ∈ [I, a], b < s2.heap.objs.size) →
      (∀ h' : Heap, (∀ b o, b ∉ [I] → s2.heap.get? b = some o → h'.get? b = some o) → ∀ b o, s.heap.get? b = some o → h'.get? b = some o) → Q (.ref I) s2) :
    wpAny (model P w) A (pyIter (.ref a)) Q E s := by
  have hlt : a < s.heap.objs.size := by obtain ⟨_, e, _⟩ := hl; exact Heap.lt_size e
  refine wpAny_pyIter_list hl (h _ _ rfl rfl ?_ ⟨⟨_, Heap.get?_push_size _ rfl, rfl, rfl⟩, hl.push _⟩ (fun b hb => ?_) (fun h' k b o e => k b o ?_ (Heap.get?_push_of_some _ e)))
  · have W := Walks.list (prog := P) (w := w) (A := A) hh s.heap.objs.size a (Nat.ne_of_lt hlt) its.toArray
    simpa using W
  · show b < (s.heap.push _).objs.size
    rw [Heap.size_push]
    rcases List.mem_cons.mp hb with rfl | hb
    · exact Nat.lt_succ_self _
    · have e : b = a := by simpa using hb
      subst e
      exact Nat.lt_succ_of_lt hlt
  · intro z
    have e2 : b = s.heap.objs.size := by simpa using z
    subst e2
    exact absurd (Heap.lt_size e) (Nat.lt_irrefl _)
theorem vals_get {xs : List V} {us : List Value} (r : Vals xs us) {i : Nat} {u : Value} (h : us[i]? = some u) : ∃ x, xs[i]? = some x ∧ RelV x u := by
  have hi : i < xs.length := by rw [r.length]; exact (List.getElem?_eq_some_iff.mp h).1
  obtain ⟨u', hu, ru⟩ := r.get (x := xs[i]) (i := i) (by simp [hi])
  rw [h] at hu
  cases hu
  exact ⟨_, by simp [hi], ru⟩
theorem range_all_map (bs : List Bool) : (List.range bs.length).all (fun i => bs.getD i false) = bs.all id := by
  rw [Bool.eq_iff_iff, List.all_eq_true, List.all_eq_true]
  constructor
  · intro h x hx
    obtain ⟨i, hi, e⟩ := List.mem_iff_getElem.mp hx
    have := h i (List.mem_range.mpr hi)
    simp only [List.getD_eq_getElem?_getD, hi, getElem?_pos, Option.getD_some, e] at this
    exact this
  · intro h i hi
    have hi' := List.mem_range.mp hi
    simp only [List.getD_eq_getElem?_getD, hi', getElem?_pos, Option.getD_some]
    exact h _ (List.getElem_mem hi')
section
variable {X : Cx}
theorem truth_bl {P : Program} {w : World} {A : Around} {bs : List Bool} {its : List Value} (r : Vals (bs.map V.bl) its) : TruthOf P w A (fun i v => its[i]? = some v) (fun i => bs.getD i false) := by
  intro i v s Q E hv q
  obtain ⟨x, hx, rx⟩ := vals_get r hv
  rw [List.getElem?_map] at hx
  cases e : bs[i]? with
  | none => rw [e] at hx; cases hx
  | some b =>
    rw [e] at hx
    cases hx
    cases (show v = Value.bool b from rx)
    refine wpAny_truthy_bool ?_
    have eb : bs.getD i false = b := by rw [List.getD_eq_getElem?_getD, e]; rfl
    rw [← eb]
    exact q
theorem call_all (hc : X.calm = true) : CallR X (.builtin "all") (fun xs H Q => ∃ (a : Addr) (bs : List Bool), xs = [V.ref a] ∧ SqL X.K H a (bs.map V.bl) ∧ Q (.bl (bs.all id)) H) := by
  intro pins s σ H xs us Q I r h
  obtain ⟨a, bs, rfl, hq, q⟩ := h
  obtain ⟨u, rfl, ru⟩ := vals1 r
  cases ru
  obtain ⟨its, rv, p, hz⟩ := I.list hq
  refine call_all_walk (walk_list (A := X.A.in1) (I.ok.hd hc) p.isList fun It s2 e2 eI W st hf old => ?_)
  have hl : bs.length = its.length := by have := rv.length; rwa [List.length_map] at this
  refine ⟨It, _, _, its.length, _, _, _, rfl, W, st, truth_bl rv, fun h' tk k => ?_⟩
  subst e2
  rw [← hl, range_all_map]
  exact ⟨.bl _, H, I.kept (t' := tk) (old h' k), rfl, q⟩
theorem ints_are : ∀ {ns : List Int} {its : List Value}, Vals (ns.map V.int) its → IntsAre its ns
  | [], _, r => by rw [List.map_nil] at r; cases r; exact .nil
  | n :: ns, _, r => by
    rw [List.map_cons] at r
    cases r with
    | cons h t =>
      obtain ⟨tk, e⟩ := (show ∃ t, _ = Value.int n t from h)
      subst e
      exact .cons n tk (ints_are t)
theorem ints_get {ns : List Int} {its : List Value} (r : Vals (ns.map V.int) its) {i : Nat} {v : Value} (h : its[i]? = some v) : ∃ t, v = .int (ns.getD i 0) t := by
  obtain ⟨x, hx, rx⟩ := vals_get r h
  rw [List.getElem?_map] at hx
  cases e : ns[i]? with
  | none => rw [e] at hx; cases hx
  | some n =>
    rw [e] at hx
    cases hx
    have en : ns.getD i 0 = n := by rw [List.getD_eq_getElem?_getD, e]; rfl
    rw [en]
    exact rx
theorem preSum_sum (ns : List Int) : ∀ k, k ≤ ns.length → preSum (fun i => ns.getD i 0) k = (ns.take k).sum
  | 0, _ => rfl
  | k + 1, h => by
    have hk : k < ns.length := by omega
    rw [preSum, preSum_sum ns k (by omega), take_snoc (x := ns[k]) (by simp [hk]), List.sum_append]
    simp [List.getD_eq_getElem?_getD, hk]
theorem call_sum1 (hc : X.calm = true) : CallR X (.builtin "sum") (fun xs H Q => ∃ (a : Addr) (ns : List Int), xs = [V.ref a] ∧ SqL X.K H a (ns.map V.int) ∧ Q (.int ns.sum) H) := by
  intro pins s σ H xs us Q I r h
  obtain ⟨a, ns, rfl, hq, q⟩ := h
  obtain ⟨u, rfl, ru⟩ := vals1 r
  cases ru
  obtain ⟨its, rv, p, hz⟩ := I.list hq
  have hl : ns.length = its.length := by have := rv.length; rwa [List.length_map] at this
  refine call_sum_walkG (walk_list (A := X.A.in1) (I.ok.hd hc) p.isList fun It s2 e2 eI W st hf old => ?_)
  refine ⟨It, _, _, its.length, _, _, (fun i => ns.getD i 0), rfl, W, st, hf, (fun _ _ => ints_get rv), fun h' tk t' k => ?_⟩
  subst e2
  refine ⟨.int _, H, I.kept (t' := tk) (old h' k), ⟨t', rfl⟩, ?_⟩
  rw [← hl, preSum_sum ns _ (Nat.le_refl _), List.take_length]
  exact q
/-- set(xs): as many as there are numbers that differ -/
def many (ns : List Int) : Nat := (firstMet (fun i => ns.getD i 0) ns.length).length
theorem call_set1 (hc : X.calm = true) : CallR X (.type "set") (fun xs H Q => ∃ (a : Addr) (ns : List Int), xs = [V.ref a] ∧ SqL X.K H a (ns.map V.int) ∧ ns.length + 1 < scanBound ∧ ∀ p, H p = none → Q (.ref p) (upd H p (.set (fun k => (firstMet (fun i => ns.getD i 0) ns.length).any (· == k)) (many ns)))) := by
  intro pins s σ H xs us Q I r h
  obtain ⟨a, ns, rfl, hq, hb, q⟩ := h
  obtain ⟨u, rfl, ru⟩ := vals1 r
  cases ru
  obtain ⟨its, rv, p, hz⟩ := I.list hq
  have hl : ns.length = its.length := by have := rv.length; rwa [List.length_map] at this
  have hsz : its.toArray.size = ns.length := by rw [List.size_toArray, hl]
  refine call_set_list (items := its.toArray) (ns := ns) (I.ok.hd hc) p.isList (by simpa using ints_are rv) (by rw [hsz]; exact hb) fun h' tk hS k => ?_
  rw [hsz] at hS
  have I' : Inv X pins σ (upd H s.heap.objs.size (.set (fun k => (firstMet (fun i => ns.getD i 0) ns.length).any (· == k)) (many ns))) { s with heap := h', toks := tk } :=
    I.laid (fun b o e => k b o (Heap.lt_size e) e) (Nat.le_refl _) hS
  exact ⟨.ref _, _, I', rfl, q _ (I.hok.fresh (Nat.le_refl _))⟩
theorem call_lenS : CallR X (.builtin "len") (fun xs H Q => ∃ a S n, xs = [V.ref a] ∧ H a = some (.set S n) ∧ Q (.int n) H) := by
  intro pins s σ H xs us Q I r h
  obtain ⟨a, S, n, rfl, hq, q⟩ := h
  obtain ⟨u, rfl, ru⟩ := vals1 r
  cases ru
  obtain ⟨o, es, ep, t, h1, h2, h3, h4, h5, h6, h7, h8⟩ := (show s.heap.SetOf (intKind X.prog X.w) a S n from I.hok a _ hq)
  have hfit : (es.size : Int) < 2 ^ 63 := by
    have : (es.size : Int) < 4096 := by unfold scanBound at h6; omega
    exact Int.lt_of_lt_of_le this (by decide)
  exact call_len_set h1 h2 h3 h7 hfit ⟨.int n, H, I.tok _, ⟨_, by rw [h8]⟩, q⟩

/-! ## Texts compared; isinstance; slices of texts -/
theorem op_le_str : OpR X (compareOp .LtE) (fun x y H Q => ∃ i j, x = .str i ∧ y = .str j ∧ Q (.bl (!decide (j.cps.toList < i.cps.toList))) H) := by
  intro pins s σ H x y v u Q I rx ry h
  obtain ⟨i, j, rfl, rfl, q⟩ := h
  obtain ⟨t, rfl⟩ := rx
  obtain ⟨t', rfl⟩ := ry
  exact PySem.P.le_str (fin_bl I q rfl)
theorem call_isi {c : Value} {cv : V} (hcv : RelV cv c) (huniq : ∀ u, RelV cv u → u = c) : CallR X (.builtin "isinstance") (fun xs H Q => ∃ x t b, xs = [x, cv] ∧ TyOf X.K H x t ∧ PySem.W.kitOne X.K t c = some b ∧ Q (.bl b) H) := by
  intro pins s σ H xs us Q I r h
  obtain ⟨x, t, b, rfl, ty, e, q⟩ := h
  obtain ⟨u, u', rfl, ru, ru'⟩ := vals2 r
  have := huniq u' ru'
  subst this
  exact isinst_ok I ru ty e fun tk => ⟨.bl b, H, I.tok _, rfl, q⟩
theorem call_isT (T : String) : CallR X (.builtin "isinstance") (fun xs H Q => ∃ x t b, xs = [x, .ty T] ∧ TyOf X.K H x t ∧ PySem.W.kitOne X.K t (.type T) = some b ∧ Q (.bl b) H) := call_isi (c := .type T) (cv := .ty T) rfl fun _ h => h
end
end L2

namespace L2
open PySem PySem.Spec PyProof.Rows

/-! ## Short words -/
section
variable {X : Cx}
/-- a block cut behind its first statement by what holds there -/
def tCut (t u : TS) : TS := fun D σ H => ∃ M : St → Hp → Prop, t { D with nx := M } σ H ∧ ∀ σ' H', M σ' H' → u D σ' H'
theorem pss_cut {st : Stmt} {rest : List Stmt} {t u : TS} (h1 : PS X st t) (h2 : PSs X rest u) : PSs X (st :: rest) (tCut t u) := by
  intro pins s σ H D I h
  obtain ⟨M, h, hM⟩ := h
  refine wpAny_execs_cons (thn (h1 pins s σ H { D with nx := M } I h) fun f s1 q => ?_)
  cases f with
  | next =>
    obtain ⟨σ', H', I', q⟩ := q
    exact h2 pins s1 σ' H' D I' (hM σ' H' q)
  | ret v => exact q
  | brk => exact q
  | cont => exact q
theorem nd_comp {scope : Scope} {N : List Str} {cl : List (Str × Addr)} {C : Addr} {s : Shared} {H : Hp} {fp : List Addr} {pn : List (Addr × Obj)} (h : N.Nodup) : (cxComp X scope N cl C s H fp pn).N.Nodup := h
theorem pe_gint {x : Str} {i : Int} {pos : Pos} (hg : Gl X x) (hm : ∃ t, X.mg x = some (.int i t)) (hd : (x == ("__debug__" : Str)) = false := by decide) : PE X (.Name x pos) (tC (.int i)) := by
  obtain ⟨t, hm⟩ := hm
  exact pe_glob hg hm ⟨t, rfl⟩ hd
end
/-- a def of the top that keeps its promise -/
structure Callee (P : Program) (w : World) (K : PySem.W.Frag) (mg : Str → Option Value) (base : Heap) (x : Str) (k : Nat) (ps : List Str) (sp : Sp) : Prop where
  ex : ∃ f fd, FnOk P w K mg base CX0 k f fd ps sp ∧ mg x = some (.ref f) ∧ PySem.W.keepIn K (.ref f) = true ∧ Binds K fd ps [] ∧ ∃ o, K.lookup f = some o ∧ o.data = .func fd
/-- a def as the top has left it -/
structure DefAt (K : PySem.W.Frag) (mg : Str → Option Value) (x : Str) (st : Stmt) : Prop where
  ex : ∃ f fd, Fun K x x st f fd ∧ mg x = some (.ref f)
theorem def_mk {K : PySem.W.Frag} {mg : Str → Option Value} {h : Heap} {x : Str} {st : Stmt} {f : Addr} {oc : Value} {od an : Option Addr} {osl : Array (Option Value)} {kV doc pm cdv ct : Value} (X : K.In h) (G : h.Ns mainGlobals mg)
    (a : PySem.W.nsIn K mainGlobals x = some (some (.ref f)))
    (l : K.lookup f = some ⟨oc, od, .func (PySem.W.fnOf x x (defArgs st) (defBody st) (defScope st) .none kV doc pm an cdv ct), osl⟩)
    (c : PySem.W.codeIn K cdv x = true) (k : PySem.W.keepIn K (.ref f) = true) : DefAt K mg x st := ⟨f, _, fun_mk l c k, PySem.W.mg_of X G a⟩
theorem int_mk {K : PySem.W.Frag} {mg : Str → Option Value} {h : Heap} {x : Str} {i : Int} {t : Tok} (X : K.In h) (G : h.Ns mainGlobals mg) (a : PySem.W.nsIn K mainGlobals x = some (some (.int i t))) : ∃ t, mg x = some (.int i t) := ⟨t, PySem.W.mg_of X G a⟩
section
variable {P : Program} {w : World} {K : PySem.W.Frag} {mg : Str → Option Value} {base : Heap}
theorem DefAt.callee {x : Str} {st : Stmt} {N ps : List Str} {k : Nat} {sp : Sp} (D : DefAt K mg x st) (S : FnScope N ps (defScope st))
    (hb : ∀ (kV doc pm : Value) (an : Option Addr) (cdv ct : Value) (us : List Value), us.length = ps.length → bindArgs (PySem.W.fnOf x x (defArgs st) (defBody st) (defScope st) .none kV doc pm an cdv ct) ⟨us, []⟩ = pure (ps.zip us))
    (len : ∀ vs H Q E, sp vs H Q E → vs.length = ps.length)
    (hbody : ∀ (f : Addr) (cdv : Value) (A : Around) (outer : List Env) (s : Shared) (H : Hp) (vs : List V) (Q : VK) (E : XK), Room k (A.deeper (envOfC x (defScope st) s.heap.objs.size f cdv)) → sp vs H Q E →
      ∃ t, PSs (cxOf CX0 P w K mg base N x (defScope st) f cdv A outer s H E).nox (defBody st) t ∧ t { nx := fun _ H' => Q .non H', rt := Q } (start N vs) H) : Callee P w K mg base x (k + 1) ps sp := by
  obtain ⟨f, fd, F, m⟩ := D.ex
  obtain ⟨oc, od, kV, doc, pm, an, cdv, ct, osl, e, lk, hcd⟩ := id F.ex
  exact ⟨f, fd, F.ok S len (fun cdv A outer s H vs Q E hr h => hbody f cdv A outer s H vs Q E hr h), m, F.kp, F.binds hb, _, lk, rfl⟩
end
section
variable {X : Cx} {x : Str} {k : Nat} {ps : List Str} {sp : Sp} {p pos : Pos} {e : Expr} {es : List Expr} {t : TA}
/-- f(e, ..) of a def that keeps its promise -/
theorem pe_fn (C : Callee X.prog X.w X.K X.mg X.base x k ps sp) (hr : Room k X.A) (hg : Gl X x) (ha : PA X (e :: es) t) (hdb : (x == ("__debug__" : Str)) = false := by decide)
    (he : starEach (e :: es) X.env = (false, eval e X.env) :: starEach es X.env := by rfl) (hpl : (backTo pos (starEach es X.env)).any (·.1) = false := by rfl) : PE X (.Call (.Name x p) (e :: es) [] pos) (tCall sp [] E0 t) := by
  obtain ⟨f, fd, F, hm, hk, hb, _⟩ := C.ex
  exact pe_call F hr hg hm hk hb .nil pass0 ha hdb he hpl
end
/-- Python's own names, none of them given another meaning at the top -/
structure Bn (mg : Str → Option Value) : Prop where
  n_len : mg "len" = none
  n_all : mg "all" = none
  n_any : mg "any" = none
  n_max : mg "max" = none
  n_min : mg "min" = none
  n_sum : mg "sum" = none
  n_sorted : mg "sorted" = none
  n_isinstance : mg "isinstance" = none
  n_int : mg "int" = none
  n_bool : mg "bool" = none
  n_str : mg "str" = none
  n_list : mg "list" = none
  n_tuple : mg "tuple" = none
  n_dict : mg "dict" = none
  n_set : mg "set" = none
  n_range : mg "range" = none
  n_reversed : mg "reversed" = none
  n_repr : mg "repr" = none
  n_abs : mg "abs" = none
  n_enumerate : mg "enumerate" = none
  n_zip : mg "zip" = none
theorem bn_mk {K : PySem.W.Frag} {mg : Str → Option Value} {h : Heap} (X : K.In h) (G : h.Ns mainGlobals mg)
    (a_len : PySem.W.nsIn K mainGlobals "len" = some none)
    (a_all : PySem.W.nsIn K mainGlobals "all" = some none)
    (a_any : PySem.W.nsIn K mainGlobals "any" = some none)
    (a_max : PySem.W.nsIn K mainGlobals "max" = some none)
    (a_min : PySem.W.nsIn K mainGlobals "min" = some none)
    (a_sum : PySem.W.nsIn K mainGlobals "sum" = some none)
    (a_sorted : PySem.W.nsIn K mainGlobals "sorted" = some none)
    (a_isinstance : PySem.W.nsIn K mainGlobals "isinstance" = some none)
    (a_int : PySem.W.nsIn K mainGlobals "int" = some none)
    (a_bool : PySem.W.nsIn K mainGlobals "bool" = some none)
    (a_str : PySem.W.nsIn K mainGlobals "str" = some none)
    (a_list : PySem.W.nsIn K mainGlobals "list" = some none)
    (a_tuple : PySem.W.nsIn K mainGlobals "tuple" = some none)
    (a_dict : PySem.W.nsIn K mainGlobals "dict" = some none)
    (a_set : PySem.W.nsIn K mainGlobals "set" = some none)
    (a_range : PySem.W.nsIn K mainGlobals "range" = some none)
    (a_reversed : PySem.W.nsIn K mainGlobals "reversed" = some none)
    (a_repr : PySem.W.nsIn K mainGlobals "repr" = some none)
    (a_abs : PySem.W.nsIn K mainGlobals "abs" = some none)
    (a_enumerate : PySem.W.nsIn K mainGlobals "enumerate" = some none)
    (a_zip : PySem.W.nsIn K mainGlobals "zip" = some none)
    : Bn mg := ⟨PySem.W.mg_none_of X G a_len, PySem.W.mg_none_of X G a_all, PySem.W.mg_none_of X G a_any, PySem.W.mg_none_of X G a_max, PySem.W.mg_none_of X G a_min, PySem.W.mg_none_of X G a_sum, PySem.W.mg_none_of X G a_sorted, PySem.W.mg_none_of X G a_isinstance, PySem.W.mg_none_of X G a_int, PySem.W.mg_none_of X G a_bool, PySem.W.mg_none_of X G a_str, PySem.W.mg_none_of X G a_list, PySem.W.mg_none_of X G a_tuple, PySem.W.mg_none_of X G a_dict, PySem.W.mg_none_of X G a_set, PySem.W.mg_none_of X G a_range, PySem.W.mg_none_of X G a_reversed, PySem.W.mg_none_of X G a_repr, PySem.W.mg_none_of X G a_abs, PySem.W.mg_none_of X G a_enumerate, PySem.W.mg_none_of X G a_zip⟩
/-- the law's own def, for the head -/
theorem DefAt.entry {P : Program} {w : World} {K : PySem.W.Frag} {mg : Str → Option Value} {x p : Str} {st : Stmt} {k : Nat} {sp : Sp} {fa : Addr} (D : DefAt K mg x st) (hfa : mg x = some (.ref fa))
    (hb : ∀ (kV doc pm : Value) (an : Option Addr) (cdv ct v : Value), bindArgs (PySem.W.fnOf x x (defArgs st) (defBody st) (defScope st) .none kV doc pm an cdv ct) ⟨[v], []⟩ = pure [(p, v)])
    (C : ∀ base : Heap, Callee P w K mg base x k [p] sp) :
    ∃ fd : FuncData, (∀ (s : Shared) (v : Value), BindsTo s fd ⟨[v], []⟩ [(p, v)]) ∧ ∀ base : Heap, K.In base → base.Ns mainGlobals mg → FnOk P w K mg base CX0 k fa fd [p] sp := by
  obtain ⟨f, fd, F, m⟩ := D.ex
  rw [m] at hfa
  cases hfa
  obtain ⟨oc, od, kV, doc, pm, an, cdv, ct, osl, rfl, lk, hcd⟩ := F.ex
  refine ⟨_, fun s v => .of_eq (hb kV doc pm an cdv ct v), fun base _ _ => ?_⟩
  obtain ⟨f', fd', G, m', _, _, o, lo, ed⟩ := (C base).ex
  rw [m] at m'
  cases m'
  rw [lk] at lo
  cases lo
  cases ed
  exact G
end L2

namespace L2
open PySem PySem.Spec PyProof.Rows

/-! ## An exception on its way: its object has a traceback and no context; B is what stays as it is -/
structure Fly (B : Heap) (l : List Env) (x : Addr) (c fl : Value) (h : Heap) : Prop where
  stay : B.StaysIn h
  new : B.get? x = none
  frs : h.FunFrames B l
  obj : ∃ (oe : Obj) (vs : Array Value) (T : Addr) (oT : Obj) (ts : Array Value), h.get? x = some oe ∧ (oe.cls = c ∧ oe.dict = none) ∧ oe.data = .fields vs ∧ vs[1]? = some (.ref T) ∧ vs[2]? = some .none ∧ B.get? T = none ∧ T ≠ x ∧ h.get? T = some oT ∧ oT.data = .fields ts ∧ ts[3]? = some fl
/-- just made: no traceback yet -/
structure Fresh (B : Heap) (l : List Env) (x : Addr) (c : Value) (h : Heap) : Prop where
  stay : B.StaysIn h
  new : B.get? x = none
  frs : h.FunFrames B l
  obj : ∃ (oe : Obj) (vs : Array Value), h.get? x = some oe ∧ (oe.cls = c ∧ oe.dict = none) ∧ oe.data = .fields vs ∧ vs[1]? = some .none ∧ vs[2]? = some .none
section
variable {M : Model} {A : Around} {E : Value → Shared → Prop} {s : Shared} {B : Heap} {l outer : List Env} {env : Env} {x L : Addr} {c : Value}
theorem dict_mapFields (o : Obj) (f : Array Value → Array Value) : (o.mapFields f).dict = o.dict := by
  unfold Obj.mapFields
  split <;> rfl
theorem setFields_get {h : Heap} {a b : Addr} {o : Obj} {vs : Array Value} {f : Array Value → Array Value} (ha : h.get? a = some o) (hd : o.data = .fields vs) :
    (h.update a (Obj.mapFields f)).get? a = some (o.mapFields f) ∧ (b ≠ a → (h.update a (Obj.mapFields f)).get? b = h.get? b) :=
  ⟨Heap.get?_update_self _ ha (Obj.isFreed_of_fields (Obj.data_mapFields hd f)), fun hb => Heap.get?_update_other _ _ (Ne.symm hb)⟩
/-- a row of the traceback -/
theorem fly_entry {oe : Obj} {vs : Array Value} {head : Value} {hadNext : Bool} {Q : Unit → Shared → Prop} (hfr : A.frames = some (env :: outer)) (hl : s.heap.FunFrames B (env :: outer)) (hf : env.frame = some L)
    (st : B.StaysIn s.heap) (nx : B.get? x = none) (hx : s.heap.get? x = some oe) (hc : oe.cls = c ∧ oe.dict = none) (hd : oe.data = .fields vs) (h2 : vs[2]? = some .none)
    (k : ∀ h', Fly B (env :: outer) x c (rawInt L) h' → s.heap.UpToSlots h' → Q () { s with heap := h' }) :
    wpAny M A (do let a ← frameOf env; let pl ← entryPlaceOf L hadNext; let b ← EntryCells.newEntry head a .none (rawInt L) .none pl; setField (.ref x) 1 b) Q E s := by
  have hsz : 2 < vs.size := (Array.getElem?_eq_some_iff.mp h2).1
  have xnf : x ∉ (env :: outer).filterMap (·.frame) := fun hm => by
    obtain ⟨_, o, ho, hno⟩ := hl.mem hm
    rw [hx] at ho
    cases ho
    exact hno vs hd
  refine wpAny_bind (wpAny_frameOf_fun hfr hl hf fun g1 so => wpAny_bind (wpAny_entryPlaceOf fun pl hpl => ?_))
  unfold EntryCells.newEntry newFields
  refine wpAny_bind (wpAny_newObj_type ?_ (hpl.sizeOk5 _ _ _ _ _))
  have hx1 : g1.get? x = some oe := (so.2.1 x xnf).trans hx
  have st1 : B.StaysIn g1 := fun b o hb => by
    refine (so.2.1 b fun hm => ?_).trans (st b o hb)
    have := (hl.mem hm).1
    rw [hb] at this
    cases this
  have big : x < g1.objs.size := Heap.lt_size hx1
  generalize hnew : ({ cls := .type "traceback", dict := none, data := .fields ([head, .ref L, .none, rawInt L, .none] ++ (if pl.isEmpty then List.replicate 6 Value.none else pl)).toArray } : Obj) = tb
  have hx2 : (g1.push tb).get? x = some oe := Heap.get?_push_of_some tb hx1
  refine wpAny_setField hx2 hd (by omega) (k _ ?_ ?_)
  · have tx : g1.objs.size ≠ x := Nat.ne_of_gt big
    obtain ⟨e1, e2⟩ := setFields_get (b := g1.objs.size) (f := fun a => a.setIfInBounds 1 (Value.ref g1.objs.size)) hx2 hd
    have hT : (g1.push tb).get? g1.objs.size = some tb := Heap.get?_push_size g1 (by rw [← hnew]; rfl)
    refine ⟨fun b o hb => ?_, nx, hl.of_keeps fun b o hb hno => ?_, _, _, g1.objs.size, tb, _, e1, ⟨(Obj.cls_mapFields _ _).trans hc.1, (dict_mapFields _ _).trans hc.2⟩, Obj.data_mapFields hd _, (by show (vs.setIfInBounds 1 (Value.ref g1.objs.size))[1]? = _; simp [show 1 < vs.size by omega]), ?_, st1.fresh, tx, (e2 tx).trans hT, by rw [← hnew], ?_⟩
    · obtain ⟨_, e3⟩ := setFields_get (b := b) (f := fun a => a.setIfInBounds 1 (Value.ref g1.objs.size)) hx2 hd
      refine (e3 fun z => ?_).trans (Heap.get?_push_of_some tb (st1 b o hb))
      rw [z, nx] at hb
      cases hb
    · have bx : b ≠ x := fun z => by
        rw [z, hx] at hb
        cases hb
        exact hno vs hd
      obtain ⟨sl, hs⟩ := so.2.2 b o hb
      obtain ⟨_, e3⟩ := setFields_get (b := b) (f := fun a => a.setIfInBounds 1 (Value.ref g1.objs.size)) hx2 hd
      exact ⟨_, (e3 bx).trans (Heap.get?_push_of_some tb hs), rfl⟩
    · rw [Array.getElem?_setIfInBounds_ne (by decide)]
      exact h2
    · rcases hpl with rfl | ⟨_, _, _, _, _, _, _, rfl⟩ <;> rfl
  · intro b o hb hno
    have bx : b ≠ x := fun z => by
      rw [z, hx] at hb
      cases hb
      exact hno vs hd
    obtain ⟨sl, hs⟩ := so.2.2 b o hb
    obtain ⟨_, e3⟩ := setFields_get (b := b) (f := fun a => a.setIfInBounds 1 (Value.ref g1.objs.size)) hx2 hd
    exact ⟨sl, (e3 bx).trans (Heap.get?_push_of_some tb hs)⟩
/-- the mark of where it flies is taken off -/
theorem fly_land {fl : Value} {Q : Unit → Shared → Prop} (F : Fly B l x c fl s.heap) (k : ∀ h', Fly B l x c .none h' → s.heap.UpToSlots h' → Q () { s with heap := h' }) : wpAny M A (setFlight (.ref x) none) Q E s := by
  obtain ⟨oe, vs, T, oT, ts, hx, hc, hd, h1, h2, nT, tx, hT, dT, h3⟩ := F.obj
  have hsz : 3 < ts.size := (Array.getElem?_eq_some_iff.mp h3).1
  unfold setFlight
  refine wpAny_bind (wpAny_field hx hd h1 ?_)
  rw [if_pos (by simp)]
  refine wpAny_setField hT dT hsz (k _ ?_ ?_)
  · have e : ∀ b, b ≠ T → (s.heap.update T (Obj.mapFields (·.setIfInBounds 3 ((none : Option Addr).elim Value.none fun f => rawInt f)))).get? b = s.heap.get? b := fun b hb => (setFields_get hT dT).2 hb
    refine ⟨fun b o hb => (e b fun z => ?_).trans (F.stay b o hb), F.new, F.frs.of_keeps fun b o hb hno => ⟨o, (e b fun z => ?_).trans hb, rfl⟩, oe, vs, T, _, _, (e x (Ne.symm tx)).trans hx, hc, hd, h1, h2, nT, tx, (setFields_get (b := T) hT dT).1, Obj.data_mapFields dT _, by simp [hsz]⟩
    · rw [z, nT] at hb; cases hb
    · rw [z, hT] at hb; cases hb; exact hno ts dT
  · intro b o hb hno
    refine ⟨o.slots, ((setFields_get hT dT).2 fun z => ?_).trans hb⟩
    rw [z, hT] at hb; cases hb; exact hno ts dT
/-- the frame is noted -/
theorem fly_note {Q : Unit → Shared → Prop} (hfr : A.frames = some (env :: outer)) (hf : env.frame = some L) (F : Fly B (env :: outer) x c .none s.heap)
    (k : ∀ h', Fly B (env :: outer) x c (rawInt L) h' → s.heap.UpToSlots h' → Q () { s with heap := h' }) : wpAny M A (noteFrame (.ref x) env) Q E s := by
  obtain ⟨oe, vs, T, oT, ts, hx, hc, hd, h1, h2, nT, tx, hT, dT, h3⟩ := F.obj
  have hsz : 3 < ts.size := (Array.getElem?_eq_some_iff.mp h3).1
  unfold noteFrame
  simp only [hf]
  refine wpAny_bind (wpAny_field hx hd h1 ?_)
  rw [if_pos (by simp)]
  refine wpAny_bind (wpAny_field hT dT h3 ?_)
  rw [if_neg (by simp [rawInt])]
  refine wpAny_bind (wpAny_setField hT dT hsz ?_)
  have e : ∀ b, b ≠ T → (s.heap.update T (Obj.mapFields (·.setIfInBounds 3 Value.none))).get? b = s.heap.get? b := fun b hb => (setFields_get hT dT).2 hb
  have nf : ∀ b o, s.heap.get? b = some o → (∀ vs, o.data ≠ .fields vs) → b ≠ T := fun b o hb hno z => by
    rw [z, hT] at hb; cases hb; exact hno ts dT
  refine fly_entry hfr (F.frs.of_keeps fun b o hb hno => ⟨o, (e b (nf b o hb hno)).trans hb, rfl⟩) hf (fun b o hb => (e b fun z => ?_).trans (F.stay b o hb)) F.new ((e x (Ne.symm tx)).trans hx) hc hd h2 fun h' F' u => k h' F' fun b o hb hno => ?_
  · rw [z, nT] at hb; cases hb
  · exact u b o ((e b (nf b o hb hno)).trans hb) hno
theorem fresh_note {Q : Unit → Shared → Prop} (hfr : A.frames = some (env :: outer)) (hf : env.frame = some L) (F : Fresh B (env :: outer) x c s.heap)
    (k : ∀ h', Fly B (env :: outer) x c (rawInt L) h' → s.heap.UpToSlots h' → Q () { s with heap := h' }) : wpAny M A (noteFrame (.ref x) env) Q E s := by
  obtain ⟨oe, vs, hx, hc, hd, h1, h2⟩ := F.obj
  unfold noteFrame
  simp only [hf]
  refine wpAny_bind (wpAny_field hx hd h1 ?_)
  rw [if_neg (by decide)]
  exact fly_entry hfr F.frs hf F.stay F.new hx hc hd h2 k
theorem Fly.tail {fl : Value} {h : Heap} (F : Fly B (env :: outer) x c fl h) : Fly B outer x c fl h := ⟨F.stay, F.new, F.frs.2.2, F.obj⟩
/-- out of a frame -/
theorem fly_leave {Q : Unit → Shared → Prop} (hfr : A.frames = some (env :: outer)) (hf : env.frame = some L) (F : Fly B (env :: outer) x c .none s.heap)
    (k : ∀ h', Fly B outer x c .none h' → s.heap.UpToSlots h' → Q () { s with heap := h' }) : wpAny M A (leaving env (.ref x)) Q E s := by
  unfold leaving
  exact wpAny_bind (fly_note hfr hf F fun h1 F1 u1 => fly_land (s := { s with heap := h1 }) F1 fun h2 F2 u2 => k h2 F2.tail (u1.trans u2))
theorem fresh_leave {Q : Unit → Shared → Prop} (hfr : A.frames = some (env :: outer)) (hf : env.frame = some L) (F : Fresh B (env :: outer) x c s.heap)
    (k : ∀ h', Fly B outer x c .none h' → s.heap.UpToSlots h' → Q () { s with heap := h' }) : wpAny M A (leaving env (.ref x)) Q E s := by
  unfold leaving
  exact wpAny_bind (fresh_note hfr hf F fun h1 F1 u1 => fly_land (s := { s with heap := h1 }) F1 fun h2 F2 u2 => k h2 F2.tail (u1.trans u2))
end
end L2
namespace L2
open PySem PySem.Spec PyProof.Rows
section
variable {P : Program} {w : World}
theorem ObjOk.there {H : Hp} {h : Heap} {a : Addr} {o : HO} (x : ObjOk P w H h a o) : ∃ ob, h.get? a = some ob := by
  cases o with
  | lst xs => obtain ⟨_, _, _, _, e⟩ := x; exact ⟨_, e⟩
  | tup xs => obtain ⟨_, _, _, o, e, _⟩ := x; exact ⟨o, e⟩
  | dK kvs => obtain ⟨_, _, _, _, o, _, _, e, _⟩ := x; exact ⟨o, e⟩
  | dT kvs => obtain ⟨_, _, _, _, o, _, _, e, _⟩ := x; exact ⟨o, e⟩
  | set S n => obtain ⟨o, _, _, _, e, _⟩ := x; exact ⟨o, e⟩
  | ins C dx fs => obtain ⟨_, _, _, e, _⟩ := x; exact ⟨_, e⟩
  | own y => exact x
  | xd fs => obtain ⟨_, ⟨o, _, _, e, _⟩, _⟩ := x; exact ⟨o, e⟩
  | rng lo hi => obtain ⟨_, _, _, e⟩ := x; exact ⟨_, e⟩
  | frz ob u => obtain ⟨e, _⟩ := x; exact ⟨_, e⟩
  | tbl ps => exact ⟨_, (show h.get? a = some _ from x)⟩
  | met f y => exact ⟨_, (show h.get? a = some _ from x)⟩
  | ext φ => obtain ⟨_, e, _⟩ := x; exact e
/-- how an exception lies behind a call: on its way through the callers' frames; what is tracked, and what was there at the call, stays -/
def CX1 (P : Program) (w : World) : CXT := fun outer H s E e s' => ∃ (x : Addr) (c : Value) (B : Heap) (H' : Hp), e = .ref x ∧ Fly B outer x c .none s'.heap ∧ s'.os = s.os ∧ AllBare s'.gens ∧ Un (frs outer) [] H H' s.heap s'.heap ∧ HOk P w H' s'.heap ∧ H' x = none ∧
  (∀ b o, H' b = some o → ∃ ob, B.get? b = some ob) ∧ (∀ b o, s.heap.get? b = some o → b ∉ frs outer → ∃ ob, B.get? b = some ob) ∧ E c none H'
theorem fly_hok {B h h' : Heap} {H : Hp} (ok : HOk P w H h) (st : B.StaysIn h) (st' : B.StaysIn h') (inB : ∀ b o, H b = some o → ∃ ob, B.get? b = some ob) : HOk P w H h' := fun a o e => by
  refine (ok a o e).stay (fun b u hb q => ?_) (fun _ q => q) fun _ _ q => q
  have ⟨ob, hB⟩ : ∃ ob, B.get? b = some ob := by
    rcases hb with z | z
    · rw [z]; exact inB a o e
    · exact inB b _ z
  have := st b ob hB
  rw [q] at this
  cases this
  exact st' b _ hB
theorem fly_un {B h0 h h' : Heap} {fs : List Addr} {H H' : Hp} (u : Un fs [] H H' h0 h) (st : B.StaysIn h) (st' : B.StaysIn h') (up : h.UpToSlots h') (inB : ∀ b o, h0.get? b = some o → b ∉ fs → ∃ ob, B.get? b = some ob)
    (hfs : ∀ b ∈ fs, ∀ o, h.get? b = some o → ∀ vs, o.data ≠ .fields vs) : Un fs [] H H' h0 h' where
  keep := fun b o e n hb hx => by
    obtain ⟨ob, hB⟩ := inB b o e hb
    have q := u.keep b o e n hb hx
    have := st b ob hB
    rw [q] at this
    cases this
    exact st' b _ hB
  slot := fun b o e n hb hx => by
    obtain ⟨sl, q⟩ := u.slot b o e n hb hx
    obtain ⟨sl', q'⟩ := up b _ q (hfs b hb _ q)
    exact ⟨sl', q'⟩
  free := u.free
  there := fun b o e hx => by
    by_cases hb : b ∈ fs
    · obtain ⟨o', q⟩ := u.there b o e hx
      obtain ⟨sl, q'⟩ := up b o' q (hfs b hb o' q)
      exact ⟨_, q'⟩
    · obtain ⟨ob, hB⟩ := inB b o e hb
      exact ⟨ob, st' b ob hB⟩
  tups := u.tups
  frzs := u.frzs
  tbls := u.tbls
theorem fly_data {B h : Heap} {l : List Env} (f : h.FunFrames B l) : ∀ b ∈ frs l, ∀ o, h.get? b = some o → ∀ vs, o.data ≠ .fields vs := fun b hb o e vs => by
  obtain ⟨_, o', e', hno⟩ := f.mem hb
  rw [e] at e'
  cases e'
  exact hno vs
/-- what happened in a body, then in a callee: seen from the body's entry -/
theorem un_through {X : Cx} {pins : List (Addr × Obj)} {σ : St} {H H' : Hp} {s : Shared} {h' : Heap} (I : Inv X pins σ H s) (hex : X.ex = []) (u : Un (frs X.stack) [] H H' s.heap h') : Un X.fs [] X.H₀ H' X.s₀.heap h' := by
  have nl : ∀ b o, X.s₀.heap.get? b = some o → b ≠ X.env.locals := fun b o e => Nat.ne_of_lt (Nat.lt_of_lt_of_le (Heap.lt_size e) I.ok.above)
  have nst : ∀ b o, X.s₀.heap.get? b = some o → b ∉ X.fs → b ∉ frs X.stack := fun b o e hb z => (List.mem_cons.mp (I.stkSub b z)).elim (nl b o e) hb
  have B := I.base
  rw [hex] at B
  refine ⟨fun b o e n hb hx => u.keep b o (B.keep b o e n hb hx) (B.free b o e n hx) (nst b o e hb) hx, fun b o e n hb hx => ?_, fun b o e n hx => ?_, fun b o e hx => ?_, fun b xs e => u.tups b xs (B.tups b xs e), fun b o v e => u.frzs b o v (B.frzs b o v e), fun b ps e => ?_⟩
  · obtain ⟨sl, e1⟩ := B.slot b o e n hb hx
    obtain ⟨sl', e2⟩ := u.any e1 (B.free b o e n hx) hx
    exact ⟨sl', e2⟩
  · obtain ⟨o', e1⟩ := B.there b o e hx
    exact u.free b o' e1 (B.free b o e n hx) hx
  · obtain ⟨o', e1⟩ := B.there b o e hx
    exact u.there b o' e1 hx
  · obtain ⟨m1, e1⟩ := B.tbls b ps e
    obtain ⟨m2, e2⟩ := u.tbls b _ e1
    exact ⟨m1 ++ m2, by rw [e2, Array.append_assoc]⟩
/-- an exception of a callee passes this def's frame -/
theorem pass1 {K : PySem.W.Frag} {mg : Str → Option Value} {base : Heap} {N : List Str} {qual : Str} {scope : Scope} {f : Addr} {cd : Value} {A : Around} {outer : List Env} {s₀ : Shared} {H₀ : Hp} {E : XK} :
    Passes (CX1 P w) (cxOf (CX1 P w) P w K mg base N qual scope f cd A outer s₀ H₀ E) E := by
  intro pins σ H s e s' I h
  obtain ⟨x, c, B, H', rfl, F, ho, hg, u, ok, nx, inB, old, q⟩ := h
  have hfr : (A.deeper (envOfC qual scope s₀.heap.objs.size f cd)).frames = some (envOfC qual scope s₀.heap.objs.size f cd :: outer) := I.ok.frames
  have ut : Un (frs outer) [] H₀ H' s₀.heap s'.heap := un_through I rfl u
  have old' : ∀ b o, s₀.heap.get? b = some o → b ∉ frs outer → ∃ ob, B.get? b = some ob := fun b o e hb => by
    obtain ⟨o', e1⟩ := I.base.there b o e (by show b ∉ ([] : List Addr); simp)
    refine old b o' e1 fun z => ?_
    rcases List.mem_cons.mp (I.stkSub b z) with z | z
    · exact absurd (Nat.lt_of_lt_of_le (Heap.lt_size e) I.ok.above) (by rw [z]; exact Nat.lt_irrefl _)
    · exact hb z
  show wpAny (model P w) _ (leaving _ (.ref x)) _ _ s'
  refine fly_leave hfr rfl F fun h' F' up => ⟨x, c, B, H', rfl, F', (show s'.os = s₀.os from ho.trans I.os), hg, fly_un ut F.stay F'.stay up old' (fly_data F.tail.frs), fly_hok ok F.stay F'.stay inB, nx, inB, old', q⟩
/-- a callee that raises nothing that is wanted -/
theorem pass_no {X : Cx} {E : XK} (hE : ∀ c d H, ¬ E c d H) : Passes (CX1 P w) X E := fun _ _ _ _ _ _ _ h => by
  obtain ⟨_, _, _, _, _, _, _, _, _, _, _, _, _, q⟩ := h
  exact (hE _ _ _ q).elim
theorem pass_E0 {X : Cx} : Passes (CX1 P w) X E0 := pass_no fun _ _ _ h => h
/-- an exception just made, out of this def's frame -/
theorem raise_out {K : PySem.W.Frag} {mg : Str → Option Value} {base : Heap} {N : List Str} {qual : Str} {scope : Scope} {f : Addr} {cd : Value} {A : Around} {outer : List Env} {s₀ : Shared} {H₀ : Hp} {E : XK} {pins : List (Addr × Obj)} {σ : St} {H : Hp} {s s' : Shared} {x : Addr} {c : Value} {args : List Value}
    (I : Inv (cxOf (CX1 P w) P w K mg base N qual scope f cd A outer s₀ H₀ E) pins σ H s) (hx : Heap.MadeExcOf s.heap s'.heap x c args) (ho : s'.os = s.os) (hg : AllBare s'.gens) (q : E c none H) :
    (cxOf (CX1 P w) P w K mg base N qual scope f cd A outer s₀ H₀ E).xe (.ref x) s' := by
  have hfr : (A.deeper (envOfC qual scope s₀.heap.objs.size f cd)).frames = some (envOfC qual scope s₀.heap.objs.size f cd :: outer) := I.ok.frames
  have hin : ∀ env ∈ envOfC qual scope s₀.heap.objs.size f cd :: outer, ∀ a, env.frame = some a → a ∈ frs (envOfC qual scope s₀.heap.objs.size f cd :: outer) := fun env he a ha => List.mem_filterMap.mpr ⟨env, he, ha⟩
  have st : (PySem.W.hideAll s.heap (frs (envOfC qual scope s₀.heap.objs.size f cd :: outer))).StaysIn s'.heap := fun b o e => hx.keeps b o (PySem.W.of_hideAll _ e)
  have nx : (PySem.W.hideAll s.heap (frs (envOfC qual scope s₀.heap.objs.size f cd :: outer))).get? x = none := by
    cases e : (PySem.W.hideAll s.heap (frs (envOfC qual scope s₀.heap.objs.size f cd :: outer))).get? x with
    | none => rfl
    | some o =>
      have := PySem.W.of_hideAll _ e
      rw [hx.new] at this
      cases this
  have fr0 : s.heap.FunFrames (PySem.W.hideAll s.heap (frs (envOfC qual scope s₀.heap.objs.size f cd :: outer))) (envOfC qual scope s₀.heap.objs.size f cd :: outer) := PySem.W.funFrames_hide I.stack hin
  obtain ⟨t, hobj, _, _⟩ := hx.there
  have F : Fresh (PySem.W.hideAll s.heap (frs (envOfC qual scope s₀.heap.objs.size f cd :: outer))) (envOfC qual scope s₀.heap.objs.size f cd :: outer) x c s'.heap :=
    ⟨st, nx, fr0.of_keeps fun b o hb _ => ⟨o, hx.keeps b o hb, rfl⟩, _, _, hobj, ⟨rfl, rfl⟩, rfl, rfl, rfl⟩
  have inB : ∀ b o, s.heap.get? b = some o → b ∉ frs (envOfC qual scope s₀.heap.objs.size f cd :: outer) → ∃ ob, (PySem.W.hideAll s.heap (frs (envOfC qual scope s₀.heap.objs.size f cd :: outer))).get? b = some ob := fun b o e hb => ⟨o, PySem.W.hideAll_get _ e hb⟩
  have trk : ∀ b o, H b = some o → ∃ ob, (PySem.W.hideAll s.heap (frs (envOfC qual scope s₀.heap.objs.size f cd :: outer))).get? b = some ob := fun b o e => by
    have lt := I.hok.lt e
    cases e2 : s.heap.get? b with
    | none =>
      exfalso
      have ok := I.hok b o e
      obtain ⟨ob, hob⟩ := ok.there
      rw [e2] at hob
      cases hob
    | some ob =>
      refine inB b ob e2 fun z => ?_
      have := I.stkFree b z
      rw [e] at this
      cases this
  have old : ∀ b o, s₀.heap.get? b = some o → b ∉ frs outer → ∃ ob, (PySem.W.hideAll s.heap (frs (envOfC qual scope s₀.heap.objs.size f cd :: outer))).get? b = some ob := fun b o e hb => by
    obtain ⟨o', e1⟩ := I.base.there b o e (by show b ∉ ([] : List Addr); simp)
    refine inB b o' e1 fun z => ?_
    rcases List.mem_cons.mp (I.stkSub b z) with z | z
    · exact absurd (Nat.lt_of_lt_of_le (Heap.lt_size e) I.ok.above) (by rw [z]; exact Nat.lt_irrefl _)
    · exact hb z
  have u0 : Un (frs outer) [] H₀ H s₀.heap s.heap := un_through I rfl Un.refl
  have u1 : Un (frs outer) [] H₀ H s₀.heap s'.heap := u0.trans (Un.kept hx.keeps)
  have ok1 : HOk P w H s'.heap := I.hok.kept hx.keeps
  have nxH : H x = none := by
    cases e : H x with
    | none => rfl
    | some o =>
      obtain ⟨ob, hob⟩ := (I.hok x o e).there
      rw [hx.new] at hob
      cases hob
  show wpAny (model P w) _ (leaving _ (.ref x)) _ _ s'
  exact fresh_leave hfr rfl F fun h' F' up => ⟨x, c, _, H, rfl, F', (show s'.os = s₀.os from ho.trans I.os), hg, fly_un u1 F.stay F'.stay up old (fly_data F.frs.2.2), fly_hok ok1 F.stay F'.stay trk, nxH, trk, old, q⟩
end
end L2

namespace L2
open PySem PySem.Spec PyProof.Rows

/-! ## While an exception is handled -/
theorem entry_unchain : entryFor table "proto.unchain" = some Builtin.«proto.unchain» := entryFor_of_tree (by kernel_rfl)
section
variable {prog : Program} {w : World} {A : Around} {E : Value → Shared → Prop} {s : Shared}
/-- a new exception while another one, without context, is handled -/
theorem raiseNew_h {α : Type} {x e : Addr} {ox oe : Obj} {vs xs : Array Value} {Q : α → Shared → Prop} (hh : A.handled = some (.ref e)) (hx : s.heap.get? x = some ox) (dx : ox.data = .fields xs) (hs : 2 < xs.size) (ne : e ≠ x)
    (he : s.heap.get? e = some oe) (de : oe.data = .fields vs) (h2 : vs[2]? = some .none)
    (h : E (.ref x) { s with heap := s.heap.update x (Obj.mapFields (·.setIfInBounds 2 (.ref e))) }) : wpAny (model prog w) A (raiseNew (.ref x) : Sem α) Q E s := by
  unfold raiseNew
  refine wpAny_bind (wpAny_handled ?_)
  rw [hh]
  dsimp only
  rw [if_pos (by simpa using ne)]
  refine wpAny_bind (wpAny_holding (wpAny_runValue (codeAny_builtin entry_unchain ?_)))
  unfold Builtin.«proto.unchain»
  dsimp only
  refine wpAny_bind (wpAny_field he de h2 ?_)
  rw [if_pos (by decide)]
  refine wpAny_pure ?_
  dsimp only
  refine wpAny_bind ?_
  unfold updateField
  refine wpAny_bind (wpAny_load hx ?_)
  rw [dx]
  dsimp only
  rw [if_pos hs]
  refine wpAny_update hx ?_
  exact wpAny_throw h
theorem range_end_h {it e : Addr} {oe : Obj} {vs : Array Value} {x left step : Int} {Q : Option Value → Shared → Prop} (hh : A.handled = some (.ref e)) (he : s.heap.get? e = some oe) (de : oe.data = .fields vs) (h2 : vs[2]? = some .none)
    (hit : IsRangeIter s.heap it x left step) (hleft : left ≤ 0)
    (hQ : ∀ h', Heap.ExtBut it s.heap h' → Q none { s with heap := h' }) : wpAny (model prog w) A (pyNext (.ref it)) Q E s := by
  have ty : s.TypeIs (.ref it) "range_iterator" := ⟨_, hit, rfl⟩
  unfold pyNext
  refine wpAny_bind (wpAny_attempt (wpAny_callSpecial?_slot (name := Str.ofString "__next__") ty F.slot_range_iterator_next (wpAny_call_entry F.slot_range_iterator_next ty F.entry_range_iterator_next (?_ : wpAny _ _ (field (.ref it) 0 >>= _) _ _ s) (F.args_range_iterator_next_1 _))))
  refine wpAny_bind (wpAny_field hit rfl (x := rawInt x) rfl (?_ : wpAny _ _ (field (.ref it) 1 >>= _) _ _ s))
  refine wpAny_bind (wpAny_field hit rfl (x := rawInt left) rfl (?_ : wpAny _ _ (field (.ref it) 2 >>= _) _ _ s))
  refine wpAny_bind (wpAny_field hit rfl (x := rawInt step) rfl (?_ : wpAny _ _ (if left ≤ 0 then _ else _) _ _ s))
  rw [if_pos hleft]
  refine wpAny_bind (wpAny_rule (wpAny_bind (?_ : wpAny _ _ (newExc (.type "StopIteration") [] >>= _) _ _ _)))
  refine wpAny_bind (?_ : wpAny _ _ (newTuple [] >>= _) _ _ _)
  simp only [newTuple]
  refine wpAny_bind (wpAny_newObj_type (wpAny_bind (m := firstArgMember _ _) (wpAny_of_eq (a := Value.none) (by first | rfl | (simp only [firstArgMember]; rfl)) (wpAny_newObj_type ?_ (by size_fits)))) (by size_fits))
  refine raiseNew_h (A := A.in1) (e := e) (oe := oe) (vs := vs) (show A.in1.handled = some (.ref e) from hh) (Heap.get?_push_size _ rfl) rfl (by rw [Array.size_append]; exact Nat.lt_of_lt_of_le (show 2 < 6 by decide) (Nat.le_add_right _ _)) ?_ (Heap.get?_push_of_some _ (Heap.get?_push_of_some _ he)) de h2 ?_
  · rw [Heap.size_push]
    exact Nat.ne_of_lt (Nat.lt_succ_of_lt (Heap.lt_size he))
  · refine wpAny_bind (wpAny_isInstance (T := "StopIteration") (b := true) ⟨_, Heap.get?_update_self _ (Heap.get?_push_size _ rfl) rfl, rfl⟩ isSubtype_stop ?_)
    refine wpAny_pure (hQ _ fun b o hb hbo => ?_)
    rw [Heap.get?_update_other _ _ ?_]
    · exact Heap.get?_push_of_some _ (Heap.get?_push_of_some _ hbo)
    · rw [Heap.size_push]
      exact Nat.ne_of_gt (Nat.lt_succ_of_lt (Heap.lt_size hbo))
end
/-- the exception at e is handled, its record oe is pinned, it has no context -/
def QH (e : Addr) (oe : Obj) (Y : Cx) : Prop := Y.A.handled = some (.ref e) ∧ (e, oe) ∈ Y.pn ∧ ∃ vs, oe.data = .fields vs ∧ vs[2]? = some .none
section
variable {X : Cx} {tg : Expr} {e : Addr} {oe : Obj}
theorem QH.comp {scope : Scope} {N : List Str} {cl : List (Str × Addr)} {C : Addr} {s : Shared} {H : Hp} {fp : List Addr} {pins : List (Addr × Obj)} (q : QH e oe X) : QH e oe (cxComp X scope N cl C s H fp (X.pn ++ pins)) :=
  ⟨q.1, List.mem_append_left _ q.2.1, q.2.2⟩
theorem range_item_q {it : Addr} {lo : Int} {n i : Nat} {pins : List (Addr × Obj)} {s : Shared} {σ : St} {H : Hp} {E : Value → Shared → Prop} (I : Inv X pins σ H s) (hf : ∀ b ∈ [it], FpOk X pins H b)
    (st : IsRangeIter s.heap it (lo + (i : Nat) * 1) ((n : Int) - (i : Nat)) 1) (hg : i < n) :
    wpAny (model X.prog X.w) X.A (pyNext (.ref it)) (fun r s1 => ∃ u, r = some u ∧
      wpAny (model X.prog X.w) X.A (letOwnedTupleGo tg (.ref it) u) (fun _ s2 => ∃ x H', Inv X pins σ H' s2 ∧ RelV x u ∧ (Itr lo n).yld i H x H' ∧ IsRangeIter s2.heap it (lo + ((i + 1 : Nat) : Int) * 1) ((n : Int) - ((i + 1 : Nat) : Int)) 1 ∧ ∀ b ∈ [it], H' b = none) E s1) E s := by
  obtain ⟨f0, f1, f2, f3, f4, f5⟩ := hf it (by simp)
  refine wpAny_pyNext_range_item st (by omega) fun h' st' sb => ?_
  have I1 : Inv X pins σ H { s with heap := h', toks := s.toks + 1 } := I.turned (fun b o hb e => (sb.2 b hb).trans e) f0 f1 f3 f4 f5
  have st2 : IsRangeIter h' it (lo + ((i + 1 : Nat) : Int) * 1) ((n : Int) - ((i + 1 : Nat) : Int)) 1 := by
    have e1 : lo + ((i + 1 : Nat) : Int) * 1 = lo + (i : Nat) * 1 + 1 := by omega
    have e2 : (n : Int) - ((i + 1 : Nat) : Int) = (n : Int) - (i : Nat) - 1 := by omega
    rw [e1, e2]; exact st'
  refine ⟨_, rfl, go_of (s := { s with heap := h', toks := s.toks + 1 }) (n := "range_iterator") st2 rfl rfl (by decide) ⟨.int (lo + i), H, I1, ⟨s.toks, ?_⟩, ⟨rfl, rfl⟩, st2, fun b hb => (hf b hb).1⟩⟩
  rw [Int.mul_one]
theorem trn_range {P : Program} {w : World} {K : PySem.W.Frag} (it : Addr) (lo : Int) (n : Nat) : Trn P w K (QH e oe) tg (Itr lo n) [it] it (fun i h => IsRangeIter h it (lo + (i : Nat) * 1) ((n : Int) - (i : Nat)) 1) where
  obj := fun i h st b hb => by
    have e : b = it := by simpa using hb
    subst e
    exact ⟨_, st, fun v z => by
      have z' : Data.fields _ = Data.cell v := z
      cases z'⟩
  keep := fun i h h' st k => k it (by simp) _ st
  steps := fun Y hP hw hK hz => ⟨fun i pins s σ H E I hf st hg => range_item_q I hf st hg, fun i pins s σ H E I hf st hg => by
    obtain ⟨hh, hm, vs, de, h2⟩ := hz
    obtain ⟨f0, f1, f2, f3, f4, f5⟩ := hf it (by simp)
    exact range_end_h hh (I.pin (e, oe) (List.mem_append_left _ hm)).1 de h2 st (by have : n ≤ i := hg; omega) fun h' eb => ⟨rfl, I.turned (t' := s.toks) (fun b o hb e => eb b o hb e) f0 f1 f3 f4 f5⟩⟩
  self := fun _ _ _ _ _ st h => wpAny_pyIter_rangeiter st h
theorem range_itq {pins : List (Addr × Obj)} {σ : St} {H : Hp} {s : Shared} {R : It → Hp → Prop} {E : Value → Shared → Prop} {lo hi : Int} {t u v : Tok} {tk : Nat} (I : Inv X pins σ H s) (h1 : -(2 ^ 62) ≤ lo) (h2 : lo < 2 ^ 62) (h3 : -(2 ^ 62) ≤ hi) (h4 : hi < 2 ^ 62)
    (q : R (Itr lo (hi - lo).toNat) H) : wpAny (model X.prog X.w) X.A (pyIter (.ref s.heap.objs.size)) (PIEq (QH e oe) X pins σ tg R) E { s with heap := s.heap.push { cls := .type "range", data := .fields #[.int lo t, .int hi u, .int 1 v] }, toks := tk } := by
  refine wpAny_pyIter_range (IsRange.new ..) (small_one h1 h2 h3 h4) ?_
  have I1 : Inv X pins σ H { s with heap := s.heap.push { cls := .type "range", data := .fields #[.int lo t, .int hi u, .int 1 v] }, toks := tk } := I.kept fun b o e => Heap.get?_push_of_some _ e
  refine ⟨(s.heap.push { cls := .type "range", data := .fields #[.int lo t, .int hi u, .int 1 v] }).objs.size, [(s.heap.push { cls := .type "range", data := .fields #[.int lo t, .int hi u, .int 1 v] }).objs.size], _, _, H, rfl,
    I1.kept (t' := tk) fun b o e => Heap.get?_push_of_some _ e, trn_range _ lo (hi - lo).toNat, ?_, fun b hb => ?_, q⟩
  · have e1 : lo + ((0 : Nat) : Int) * 1 = lo := by simp
    have e2 : (((hi - lo).toNat : Nat) : Int) - ((0 : Nat) : Int) = Builtin.Range.rangeSize lo hi 1 := by rw [rangeSize_one]; split <;> omega
    show IsRangeIter _ _ (lo + ((0 : Nat) : Int) * 1) ((((hi - lo).toNat : Nat) : Int) - ((0 : Nat) : Int)) 1
    rw [e1, e2]
    exact Heap.get?_push_size _ rfl
  · have e : b = (s.heap.push { cls := .type "range", data := .fields #[.int lo t, .int hi u, .int 1 v] }).objs.size := by simpa using hb
    subst e
    exact I1.fpOk (Nat.le_refl _) (I1.hok.fresh (Nat.le_refl _))
theorem pi_range1q {a : Expr} {ta : TA} {p pos : Pos} (hg : Gl X "range") (hm : X.mg "range" = none) (ha : PA X [a] ta) (hs : starEach [a] X.env = [(false, eval a X.env)] := by rfl) : PIq (QH e oe) X tg (.Call (.Name "range" p) [a] [] pos) (iRng1 ta) := by
  intro pins s σ H R I h
  refine Call_ (ld_blt I hg hm boot_range (PyProof.Rows.callWith_type1 (thn (ha pos pins s σ H _ I h) fun us s1 ⟨vs, H1, I1, r1, q1⟩ => ?_) hs rfl))
  obtain ⟨j, e, q1, q2, q⟩ := q1
  subst e
  cases r1 with
  | cons r rr =>
    cases rr
    obtain ⟨t, rfl⟩ := r
    exact call_range_1 (range_itq I1 (by omega) (by omega) q1 q2 (by simpa using q))
end
end L2

namespace L2
open PySem PySem.Spec PyProof.Rows

/-! ## A def called while an exception is handled -/
structure RoomH (k : Nat) (A : Around) (e : Addr) : Prop where
  hd : A.handled = some (.ref e)
  dp : A.depth + 3 * k + 5 < recursionLimit
  un : A.units + 16 * k + 200 < cLine
theorem Room.mark {k : Nat} {A : Around} {e : Addr} (r : Room k A) : RoomH k (A.mark (some (.ref e))) e := ⟨rfl, r.dp, r.un⟩
theorem RoomH.depth {k : Nat} {A : Around} {e : Addr} (r : RoomH k A e) : A.depth < recursionLimit := by have := r.dp; omega
structure FnOkH (P : Program) (w : World) (K : PySem.W.Frag) (mg : Str → Option Value) (base : Heap) (e : Addr) (oe : Obj) (k : Nat) (f : Addr) (fd : FuncData) (ps : List Str) (sp : Sp) : Prop where
  len : ∀ vs H Q E, sp vs H Q E → vs.length = ps.length
  run : ∀ (A : Around) (outer : List Env) (s : Shared) (H : Hp) (args : Args) (us : List Value) (vs : List V) (Q : VK), RoomH k A e → Env0 P w K mg base A outer s H → s.heap.get? e = some oe → H e = none → e ∉ frs outer → (∀ v, oe.data ≠ .cell v) →
    BindsTo s fd args (ps.zip us) → Vals vs us → sp vs H Q E0 → codeAny (model P w) A (.call (.ref f) args) (CR CX0 outer P w H s Q E0) s
/-- the body's context -/
def cxH (P : Program) (w : World) (K : PySem.W.Frag) (mg : Str → Option Value) (base : Heap) (N : List Str) (qual : Str) (scope : Scope) (f : Addr) (cd : Value) (A : Around) (outer : List Env) (s : Shared) (H : Hp) (e : Addr) (oe : Obj) : Cx :=
  { cxOf CX0 P w K mg base N qual scope f cd A outer s H E0 with calm := false, pn := [(e, oe)], xe := fun _ _ => False }
theorem cxH_q {P : Program} {w : World} {K : PySem.W.Frag} {mg : Str → Option Value} {base : Heap} {N : List Str} {qual : Str} {scope : Scope} {f : Addr} {cd : Value} {A : Around} {outer : List Env} {s : Shared} {H : Hp} {e : Addr} {oe : Obj} {vs : Array Value}
    (hh : A.handled = some (.ref e)) (de : oe.data = .fields vs) (h2 : vs[2]? = some .none) : QH e oe (cxH P w K mg base N qual scope f cd A outer s H e oe) := ⟨hh, List.mem_singleton.mpr rfl, vs, de, h2⟩
theorem fn_ofH {P : Program} {w : World} {K : PySem.W.Frag} {mg : Str → Option Value} {base : Heap} {e : Addr} {oe : Obj} {k : Nat} {f : Addr} {name qual : Str} {params : Arguments} {body : List Stmt} {scope : Scope} {dV kV doc pm cdv ct oc : Value} {an od : Option Addr}
    {osl : Array (Option Value)} {N ps : List Str} {sp : Sp} (lk : K.lookup f = some ⟨oc, od, .func (PySem.W.fnOf name qual params body scope dV kV doc pm an cdv ct), osl⟩) (hcd : PySem.W.codeIn K cdv qual = true) (S : FnScope N ps scope)
    (len : ∀ vs H Q E, sp vs H Q E → vs.length = ps.length)
    (hbody : ∀ (A : Around) (outer : List Env) (s : Shared) (H : Hp) (vs : List V) (Q : VK), A.handled = some (.ref e) → sp vs H Q E0 →
      ∃ t, PSs (cxH P w K mg base N qual scope f cdv A outer s H e oe) body t ∧ t { nx := fun _ H' => Q .non H', rt := Q } (start N vs) H) :
    FnOkH P w K mg base e oe (k + 1) f (PySem.W.fnOf name qual params body scope dV kV doc pm an cdv ct) ps sp := by
  refine ⟨len, fun A outer s H args us vs Q hr e0 he hn hne hnc hb r hsp => ?_⟩
  have hl := len _ _ _ _ hsp
  have KX : K.In s.heap := e0.mod.kin.keeps fun b o e => (e0.bs b o e).1
  have lim : s.heap.NoLimit := e0.mod.nolimit.keeps fun b o e => (e0.bs b o e).1
  have hkind : ∀ y ∈ ps.zip us, scope.names.lookup y.1 = some .local ∨ (scope.names.lookup y.1 = some .cell ∧ ((cellsFrom (s.heap.objs.size + 1) scope.names []).lookup y.1).isSome = true) := fun ⟨n, v⟩ hy => by
    rcases S.par n (List.of_mem_zip hy).1 with q | q
    · exact .inl q
    · exact .inr ⟨q, PySem.W.cellsFrom_some _ _ _ (.inl q)⟩
  refine codeAny_call_function hr.depth (KX _ _ lk) rfl S.co S.gen rfl (PySem.W.codeRec_of KX hcd) (hb _ _ _ _ ?_)
  refine wpAny_newFunctionEnv_cells S.kind hkind fun env hen s1 x => ?_
  subst hen
  refine ⟨lim.keeps x.toInCall.keep, codeAny_func ?_⟩
  obtain ⟨t, ht, hq⟩ := hbody A outer s H vs Q hr.hd hsp
  have I0 : Inv (cxOf CX0 P w K mg base N qual scope f cdv { A with handled := none } outer s H E0) [] (start N vs) H s1 :=
    inv_start S rfl ⟨e0.frames, e0.mod, e0.bs, e0.bsz, e0.funs, e0.frf, e0.hok, e0.bare⟩ hl r x
  have I : Inv (cxH P w K mg base N qual scope f cdv A outer s H e oe) [] (start N vs) H s1 := by
    refine ⟨⟨I0.ok.mod, I0.ok.kind, I0.ok.glob, I0.ok.blt, I0.ok.above, I0.ok.inj, I0.ok.has, I0.ok.cab, (fun z => absurd z Bool.false_ne_true), Around.frames_deeper e0.frames, I0.ok.stk, I0.ok.exf, I0.ok.bs, I0.ok.bsz, I0.ok.noex, I0.ok.exfs, I0.ok.funs, I0.ok.frf⟩,
      I0.os, I0.bare, I0.base, I0.loc, I0.cell, I0.free, I0.freeC, fun p hp => ?_, I0.hok, I0.len⟩
    have e1 : p = (e, oe) := by
      rcases List.mem_append.mp hp with z | z
      · exact List.mem_singleton.mp z
      · cases z
    subst e1
    exact ⟨x.toInCall.keep _ _ he, hn, Nat.ne_of_lt (Heap.lt_size he), hne, hnc⟩
  refine wpAny_mono (ht [] s1 (start N vs) H _ I hq) (fun fl s' hs => ?_) fun e s' hs => False.elim hs
  have fin : ∀ {σ' : St} {H' : Hp} {v : V} {u : Value}, Inv (cxH P w K mg base N qual scope f cdv A outer s H e oe) [] σ' H' s' → RelV v u → Q v H' → CE outer P w H s Q u s' :=
    fun {σ' H' v u} J rv q => ⟨v, H', J.os, J.bare, J.base, J.hok, rv, q⟩
  cases fl with
  | ret u =>
    obtain ⟨v, σ', H', J, rv, q⟩ := hs
    exact fin J rv q
  | next =>
    obtain ⟨σ', H', J, q⟩ := hs
    exact fin (v := V.non) (u := Value.none) J rfl q
  | brk =>
    obtain ⟨_, _, _, q⟩ := hs
    exact False.elim q
  | cont =>
    obtain ⟨_, _, _, q⟩ := hs
    exact False.elim q
section
variable {X : Cx} {k : Nat} {f : Addr} {fd : FuncData} {ps : List Str} {sp : Sp} {x : Str} {p pos : Pos} {ex : Expr} {es : List Expr} {t : TA} {e : Addr} {oe : Obj}
/-- f(..) while e is handled -/
theorem pe_callH (F : FnOkH X.prog X.w X.K X.mg X.base e oe k f fd ps sp) (hr : RoomH k X.A e) (hp : (e, oe) ∈ X.pn) (hgd : e ∉ frs X.stack) (hg : Gl X x) (hm : X.mg x = some (.ref f)) (hk : PySem.W.keepIn X.K (.ref f) = true) (hb : Binds X.K fd ps [])
    (ha : PA X (ex :: es) t) (hdb : (x == ("__debug__" : Str)) = false := by decide) (he : starEach (ex :: es) X.env = (false, eval ex X.env) :: starEach es X.env := by rfl) (hpl : (backTo pos (starEach es X.env)).any (·.1) = false := by rfl) :
    PE X (.Call (.Name x p) (ex :: es) [] pos) (tCall sp [] E0 t) := by
  intro pins s σ H Q I h
  refine wpAny_Call_Name_kw (ld_glob I hg hm ?_ hdb)
  refine PySem.W.callWith_K (h₀ := X.base) I.ok.mod.kin hk (thn (ha pos pins s σ H _ I h) fun us s1 ⟨vs, H1, I1, r, q⟩ => ⟨I1.kIn, ?_⟩) he hpl
  have q' : sp vs H1 Q E0 := by simpa using q
  have hl : us.length = ps.length := by rw [← r.length]; exact F.len _ _ _ _ q'
  obtain ⟨e1, e2, e3, e4, e5⟩ := I1.pin (e, oe) (List.mem_append_left _ hp)
  have hb' := hb s1 us I1.kIn (by simpa using hl)
  rw [List.append_nil] at hb'
  refine wpAny_call (codeAny_mono (F.run X.A X.stack s1 H1 ⟨us, []⟩ us vs Q hr I1.env0 e1 e2 hgd e5 hb' r q') fun r s' hq => ?_)
  cases r with
  | error e => exact False.elim hq
  | ok fl =>
    cases fl with
    | ret u => exact I1.after hq
    | next => exact False.elim hq
    | brk => exact False.elim hq
    | cont => exact False.elim hq
end
end L2

namespace L2
open PySem PySem.Spec PyProof.Rows

/-! ## try .. except X as e, where the suite returns -/
structure Air (P : Program) (w : World) (outer : List Env) (H : Hp) (s : Shared) (E : XK) (B : Heap) (x : Addr) (c : Value) (H' : Hp) (fl : Value) (s' : Shared) : Prop where
  fly : Fly B outer x c fl s'.heap
  os : s'.os = s.os
  bare : AllBare s'.gens
  un : Un (frs outer) [] H H' s.heap s'.heap
  hok : HOk P w H' s'.heap
  nx : H' x = none
  trk : ∀ b o, H' b = some o → ∃ ob, B.get? b = some ob
  old : ∀ b o, s.heap.get? b = some o → b ∉ frs outer → ∃ ob, B.get? b = some ob
  e : E c none H'
theorem Air.move {P : Program} {w : World} {outer : List Env} {H : Hp} {s : Shared} {E : XK} {B : Heap} {x : Addr} {c : Value} {H' : Hp} {fl fl' : Value} {s' : Shared} {h' : Heap} (a : Air P w outer H s E B x c H' fl s') (F : Fly B outer x c fl' h') (up : s'.heap.UpToSlots h') :
    Air P w outer H s E B x c H' fl' { s' with heap := h' } :=
  ⟨F, a.os, a.bare, fly_un a.un a.fly.stay F.stay up a.old (fly_data a.fly.frs), fly_hok a.hok a.fly.stay F.stay a.trk, a.nx, a.trk, a.old, a.e⟩
/-- within the try: pins at hand, an exception flies on to the handlers -/
def cxTry (X : Cx) (E : XK) (pn : List (Addr × Obj)) : Cx :=
  { X with pn := pn, xe := fun e s' => ∃ pins σ H s, Inv { X with pn := pn, xe := fun _ _ => False } pins σ H s ∧ CX1 X.prog X.w X.stack H s E e s' }
/-- within the suite: the exception at x, with the record ox, is handled -/
def cxHand (X : Cx) (x : Addr) (ox : Obj) (pn : List (Addr × Obj)) : Cx :=
  { X with A := X.A.mark (some (.ref x)), calm := false, pn := (x, ox) :: pn, xe := fun _ _ => False }
section
variable {X : Cx} {pins : List (Addr × Obj)} {σ : St} {H : Hp} {s : Shared}
theorem pass_try {E : XK} {pn : List (Addr × Obj)} : Passes (CX1 X.prog X.w) (cxTry X E pn) E := fun pins σ H s e s' I h =>
  ⟨pins, σ, H, s, ⟨⟨I.ok.mod, I.ok.kind, I.ok.glob, I.ok.blt, I.ok.above, I.ok.inj, I.ok.has, I.ok.cab, I.ok.hd, I.ok.frames, I.ok.stk, I.ok.exf, I.ok.bs, I.ok.bsz, I.ok.noex, I.ok.exfs, I.ok.funs, I.ok.frf⟩, I.os, I.bare, I.base, I.loc, I.cell, I.free, I.freeC, I.pin, I.hok, I.len⟩, h⟩
/-- another A, calm, pins, wish -/
theorem Inv.other {A : Around} {cm : Bool} {pn : List (Addr × Obj)} {xe : Value → Shared → Prop} {pins' : List (Addr × Obj)} (I : Inv X pins σ H s) (hf : A.frames = X.A.frames) (hd : cm = true → A.handled = none)
    (hp : ∀ p ∈ pn ++ pins', s.heap.get? p.1 = some p.2 ∧ H p.1 = none ∧ p.1 ≠ X.env.locals ∧ p.1 ∉ X.fs ∧ ∀ v, p.2.data ≠ .cell v) : Inv { X with A := A, calm := cm, pn := pn, xe := xe } pins' σ H s :=
  ⟨⟨I.ok.mod, I.ok.kind, I.ok.glob, I.ok.blt, I.ok.above, I.ok.inj, I.ok.has, I.ok.cab, hd, hf.trans I.ok.frames, I.ok.stk, I.ok.exf, I.ok.bs, I.ok.bsz, I.ok.noex, I.ok.exfs, I.ok.funs, I.ok.frf⟩, I.os, I.bare, I.base, I.loc, I.cell, I.free, I.freeC, hp, I.hok, I.len⟩
/-- the frame's names are another lot: nothing is known of them -/
theorem Inv.lost {h' : Heap} {m' : Str → Option Value} {t' : Nat} (I : Inv X pins σ H s) (hn' : h'.Ns X.env.locals m') (hs : Heap.SameBut X.env.locals s.heap h') : Inv X pins (List.replicate X.N.length none) H { s with heap := h', toks := t' } := by
  obtain ⟨m, hn, hl⟩ := id I.loc
  obtain ⟨oL, _, _, hoL, _⟩ := id hn
  refine ⟨I.ok, I.os, I.bare, ⟨fun b o e n hb hx => ?_, fun b o e n hb hx => ?_, I.base.free, fun b o e hx => ?_, I.base.tups, I.base.frzs, I.base.tbls⟩, ⟨m', hn', fun j y v' e1 e2 e3 => ?_⟩, fun y c e => ?_, I.free, I.freeC, fun p hp => ?_, fun b ob e => ?_, by simp⟩
  · exact (hs.2 b (Nat.ne_of_lt (Nat.lt_of_lt_of_le (Heap.lt_size e) I.ok.above))).trans (I.base.keep b o e n hb hx)
  · obtain ⟨sl, e1⟩ := I.base.slot b o e n hb hx
    exact ⟨sl, (hs.2 b (Nat.ne_of_lt (Nat.lt_of_lt_of_le (Heap.lt_size e) I.ok.above))).trans e1⟩
  · obtain ⟨o', e1⟩ := I.base.there b o e hx
    exact ⟨o', (hs.2 b (Nat.ne_of_lt (Nat.lt_of_lt_of_le (Heap.lt_size e) I.ok.above))).trans e1⟩
  · rw [List.getElem?_replicate] at e2
    split at e2 <;> cases e2
  · obtain ⟨w', z⟩ := I.cell y c e
    exact ⟨w', z.sameBut hs (I.cne y c e)⟩
  · obtain ⟨e, n, ne, nf, d⟩ := I.pin p hp
    exact ⟨(hs.2 p.1 ne).trans e, n, ne, nf, d⟩
  · refine (I.hok b ob e).stay (fun c w' hc q => (hs.2 c ?_).trans q) (fun _ q => q) fun _ _ q => q
    intro hcl
    rw [hcl] at hc
    rcases hc with z | z
    · rw [← z, I.free] at e; cases e
    · rw [I.free] at z; cases z
/-- tb: the body, by the wish; th: the suite, by the exception and its class -/
def tTry (X : Cx) (CE : Value) (i : Nat) (tb : XK → TS) (th : Addr → Value → TS) : TS := fun D σ H => ∃ E : XK, tb E D σ H ∧
  ∀ c H' x, E c none H' → H' x = none → PySem.W.exmOne X.K c CE = some true ∧ th x c { nx := fun _ _ => False, rt := D.rt, bk := fun _ _ => False, ct := fun _ _ => False } ((List.replicate X.N.length none).set i (some (.ref x))) H'
theorem ps_try {body : List Stmt} {cn n : Str} {np hpos pos : Pos} {b₀ : Stmt} {suite : List Stmt} {i : Nat} {CE : Value} {tb : XK → TS} {th : Addr → Value → TS} (hst : X.stack = X.env :: X.outer) (hfr : X.env.frame = some X.env.locals) (hN : X.N.Nodup) (hi : X.N[i]? = some n)
    (hl : X.env.scope.names.lookup n = some .local) (hg : Gl X cn) (hm : X.mg cn = some CE)
    (hb : ∀ E pn, PSs (cxTry X E pn) body (tb E))
    (hh : ∀ x c ox pn vs, ox.cls = c ∧ ox.dict = none → ox.data = .fields vs → vs[2]? = some .none → x ∉ frs X.stack → PSs (cxHand X x ox pn) (b₀ :: suite) (th x c))
    (hd : (cn == ("__debug__" : Str)) = false := by decide) :
    PS X (.Try body [.ExceptHandler (some (.Name cn np)) (some n) (b₀ :: suite) hpos] [] [] pos) (tTry X CE i tb th) := by
  intro pins s σ H D I h
  obtain ⟨E, hbd, hex⟩ := h
  have I1 : Inv (cxTry X E (X.pn ++ pins)) [] σ H s := I.other rfl I.ok.hd (by rw [List.append_nil]; exact I.pin)
  have back : ∀ {σ' H' s'}, Inv (cxTry X E (X.pn ++ pins)) [] σ' H' s' → Inv X pins σ' H' s' := fun {σ' H' s'} J =>
    Inv.other (X := cxTry X E (X.pn ++ pins)) (A := X.A) (cm := X.calm) (pn := X.pn) (xe := X.xe) J rfl I.ok.hd fun p hp => J.pin p (List.mem_append_left _ hp)
  refine wpAny_Try_except (wpAny_mono (hb E (X.pn ++ pins) [] s σ H D I1 hbd) (fun f s1 q => ?_) fun e s1 q => ?_)
  · cases f with
    | next => obtain ⟨σ', H', J, q⟩ := q; exact wpAny_execs_nil ⟨σ', H', back J, q⟩
    | ret u => obtain ⟨v, σ', H', J, r, q⟩ := q; exact ⟨v, σ', H', back J, r, q⟩
    | brk => obtain ⟨σ', H', J, q⟩ := q; exact ⟨σ', H', back J, q⟩
    | cont => obtain ⟨σ', H', J, q⟩ := q; exact ⟨σ', H', back J, q⟩
  · obtain ⟨pins', σ', H1, s0, J, x, c, B, H2, rfl, F, ho, hgn, u, ok, nx, inB, old, q⟩ := q
    have a0 : Air X.prog X.w (X.env :: X.outer) H1 s0 E B x c H2 .none s1 := hst ▸ ⟨F, ho, hgn, u, ok, nx, inB, old, q⟩
    have hfrm : X.A.frames = some (X.env :: X.outer) := hst ▸ I.ok.frames
    refine fly_note hfrm hfr a0.fly fun h1 F1 u1 => ?_
    have a1 := a0.move F1 u1
    refine fly_land a1.fly fun h2 F2 u2 => ?_
    have a2 := a1.move F2 u2
    obtain ⟨hE, hth⟩ := hex c H2 x q nx
    have inv2 : ∀ {fl s'}, Air X.prog X.w (X.env :: X.outer) H1 s0 E B x c H2 fl s' → Inv { X with pn := X.pn ++ pins, xe := fun _ _ => False } pins' σ' H2 s' := fun {fl s'} a =>
      J.call' a.os (show Un (frs X.stack) [] H1 H2 s0.heap s'.heap by rw [hst]; exact a.un) a.hok a.bare fun b z => absurd z (by simp)
    have J2 := inv2 a2
    have xo : x ∉ frs X.stack := fun z => by
      rw [hst] at z
      obtain ⟨oe, vs, _, _, _, h1, _, h2, _⟩ := a2.fly.obj
      exact fly_data a2.fly.frs x z oe h1 vs h2
    have xl : x ≠ X.env.locals := fun z => xo (by rw [hst]; exact List.mem_filterMap.mpr ⟨X.env, List.mem_cons_self, by rw [z]; exact hfr⟩)
    have xf : x ∉ X.fs := fun z => xo (by
      rw [hst]
      obtain ⟨y, hy, e⟩ := List.mem_filterMap.mp z
      exact List.mem_filterMap.mpr ⟨y, List.mem_cons_of_mem _ hy, e⟩)
    have J2m : Inv { X with A := X.A.mark (some (.ref x)), calm := false, pn := [], xe := fun _ _ => False } [] σ' H2 { s1 with heap := h2 } := J2.other rfl (fun z => absurd z Bool.false_ne_true) fun p hp => absurd hp (by simp)
    refine wpAny_handleBy_cons (codeAny_handlers_test (ld_glob (X := { X with A := X.A.mark (some (.ref x)), calm := false, pn := [], xe := fun _ _ => False }) J2m hg hm ?_ hd)) (by intro q; cases q)
    have LT : PySem.W.Looks (model X.prog X.w) h2 (typeOf (.ref x)) c := by
      obtain ⟨oe, vs, _, _, _, h1, hc, _⟩ := a2.fly.obj
      rw [← hc.1]
      exact (PySem.W.Looks.ld h1).andThen .now
    refine (PySem.W.exm_one (M := model X.prog X.w) J2.kIn LT hE).here ?_
    dsimp only
    rw [if_pos rfl]
    refine codeAny_handlers_suite_as ?_
    refine fly_land a2.fly fun h3 F3 u3 => ?_
    have a3 := a2.move F3 u3
    have J3 := inv2 a3
    obtain ⟨ox, vs, T, oT, ts, hx, hc, hdx, h1x, h2x, nT, tx, hT, dT, h3x⟩ := a3.fly.obj
    have K3 : Inv (cxHand X x ox (X.pn ++ pins)) [] σ' H2 { s1 with heap := h3 } := J3.other (A := X.A.mark (some (.ref x))) (cm := false) (pn := (x, ox) :: (X.pn ++ pins)) (xe := fun _ _ => False) rfl (fun z => absurd z Bool.false_ne_true) fun p hp => by
      rw [List.append_nil] at hp
      rcases List.mem_cons.mp hp with z | z
      · subst z; exact ⟨hx, nx, xl, xf, fun v z => by rw [hdx] at z; cases z⟩
      · exact J3.pin p (List.mem_append_left _ z)
    have K3w := K3.weak (σ' := List.replicate X.N.length none) (by rw [List.length_replicate]; exact K3.len.symm) fun i v e => by
      rw [List.getElem?_replicate] at e
      split at e <;> cases e
    refine store_ok (X := cxHand X x ox (X.pn ++ pins)) (v := V.ref x) K3w hN hi (.inl hl) rfl (fun s4 K4 => ?_) (.inr hl)
    refine wpAny_mono (hh x c ox (X.pn ++ pins) vs hc hdx h2x xo [] s4 _ H2 _ K4 hth) (fun f s5 q5 => ?_) fun _ _ z => False.elim z
    cases f with
    | next => obtain ⟨_, _, _, z⟩ := q5; exact False.elim z
    | brk => obtain ⟨_, _, _, z⟩ := q5; exact False.elim z
    | cont => obtain ⟨_, _, _, z⟩ := q5; exact False.elim z
    | ret u5 =>
      obtain ⟨v, σ5, H5, K5, r5, q5⟩ := q5
      obtain ⟨m5, hn5, _⟩ := id K5.loc
      refine wpAny_nameGoes (env := X.env) (show X.env.kindOf n = some .local from hl) hn5 (by rw [I.ok.kind]; rfl) fun h6 m6 hn6 sb6 => ?_
      have K6 := K5.lost (t' := s5.toks + 1) hn6 sb6
      refine ⟨v, List.replicate X.N.length none, H5, ?_, r5, q5⟩
      exact Inv.other (X := cxHand X x ox (X.pn ++ pins)) (A := X.A) (cm := X.calm) (pn := X.pn) (xe := X.xe) K6 rfl I.ok.hd fun p hp => K6.pin p (List.mem_append_left _ (List.mem_cons_of_mem _ hp))
end
end L2

namespace L2
open PySem PySem.Spec PyProof.Rows

/-! ## Own error classes -/
structure ErrCls (K : PySem.W.Frag) (D : Addr) : Prop where
  ga : PySem.W.findIn K (.ref D) "__getattribute__" = some (some (.builtin "BaseException.__getattribute__"))
  gh : PySem.W.findIn K (.ref D) "__getattr__" = some none
  hc : (PySem.W.clsIn K D).isSome = true
  ha : PySem.W.findIn K (.ref D) "__class__" = some (some (.builtin "object.__class__"))
  hn : PySem.W.specialIn K (.builtin "object.__class__") "__get__" = some (some (.builtin "getset_descriptor.__get__"))
  ht : PySem.W.takesIn K (.builtin "object.__class__") = some true
  hm : PySem.W.mroIn K D (.type "object") = some true
  hb : PySem.W.mroIn K D (.type "BaseException") = some true
theorem find_cls {K : PySem.W.Frag} {D : Addr} (E : ErrCls K D) (od : Option Obj) : PySem.W.findObj K D od "__class__" = some (.bind (.builtin "getset_descriptor.__get__") (.builtin "object.__class__")) := by
  obtain ⟨cd, hc⟩ := Option.isSome_iff_exists.mp E.hc
  unfold PySem.W.findObj
  rw [hc]
  simp [E.ha, E.hn, E.ht]
section
variable {prog : Program} {w : World} {A : Around} {E : Value → Shared → Prop} {s : Shared} {K : PySem.W.Frag} {x D : Addr} {ox : Obj}
theorem exc_check {M : Model} {nameV : Value} {Q : Unit → Shared → Prop} (Er : ErrCls K D) (X : K.In s.heap) (I : PySem.W.InstAt s.heap x ox D none) (hq : Q () s) :
    wpAny M A (checkBuiltinCall "BaseException.__getattribute__" ⟨[.ref x, nameV], []⟩) Q E s := by
  have hk : builtinKind "BaseException.__getattribute__" = some .slot := by decide +kernel
  have hsplit : splitId "BaseException.__getattribute__" = some ("BaseException", "__getattribute__") := by decide +kernel
  have ha := F.args_bexc_ga (.ref x) nameV
  have L0 := I.type (M := M)
  have L1 := PySem.W.looks_mroIn (M := M) X Er.hb
  have LI : PySem.W.Looks M s.heap (isInstance (.ref x) (.type "BaseException")) true := L0.andThen L1
  obtain ⟨h, g, d, t, os⟩ := s
  simp only [checkBuiltinCall, hk, hsplit]
  refine wpAny_bind (LI.at ?_)
  repeat (any_goals (first | assumption | wp_step))
theorem exc_entry {tk : Tok} {Q : Fin → Shared → Prop} (Er : ErrCls K D) (X : K.In s.heap) (I : PySem.W.InstAt s.heap x ox D none) (hq : Q (.done (.ret (.ref D))) s) :
    wpAny (model prog w) A (Builtin.«object.__getattribute__» ⟨[.ref x, .str "__class__" tk], []⟩) Q E s := by
  obtain ⟨h, g, d, t, os⟩ := s
  have L0 := I.type (M := model prog w)
  have L1 := PySem.W.looks_find (M := model prog w) X I (find_cls Er none)
  unfold Builtin.«object.__getattribute__»
  refine wpAny_bind (wpAny_of_eq (a := (.ref x, [.str "__class__" tk])) (by rfl) ?_)
  dsimp only
  refine wpAny_bind (wpAny_pure (wpAny_bind (L0.at (wpAny_bind (L1.at ?_)))))
  show wpAny _ _ (Builtin.ObjectAttr.bindTo (.builtin "getset_descriptor.__get__") (.builtin "object.__class__") (.ref x) (.ref D)) _ _ _
  unfold Builtin.ObjectAttr.bindTo
  dsimp only
  refine wpAny_bind (wpAny_holding (wpAny_call (PySem.W.class_get (s := ⟨h, g, d, t, os⟩) (ox := ox) (od := none) X I Er.hm ?_)))
  exact wpAny_pure hq
theorem exc_call {tk : Tok} {R : Result → Shared → Prop} (Er : ErrCls K D) (X : K.In s.heap) (I : PySem.W.InstAt s.heap x ox D none) (hq : R (.ok (.ret (.ref D))) s) :
    codeAny (model prog w) A (.call (.builtin "BaseException.__getattribute__") ⟨[.ref x, .str "__class__" tk], []⟩) R s :=
  codeAny_call_builtin F.excAttr_ValueError.ga.plain F.entry_bexc_ga (exc_check Er X I (exc_entry Er X I hq))
theorem exc_class {Q : Option Value → Shared → Prop} (Er : ErrCls K D) (X : K.In s.heap) (I : PySem.W.InstAt s.heap x ox D none) (hq : Q (some (.ref D)) { s with toks := s.toks + 1 }) : wpAny (model prog w) A (getAttr? (.ref x) "__class__") Q E s := by
  obtain ⟨h, g, d, t, os⟩ := s
  have L0 := I.type (M := model prog w)
  have L1 := PySem.W.looks_findIn (M := model prog w) X Er.ga
  have L2 := PySem.W.looks_findIn (M := model prog w) X Er.gh
  have f3 := F.excAttr_ValueError.ga.bind (.ref x)
  unfold getAttr? getAttrBy? getAttrBy
  refine wpAny_bind (wpAny_mkText (wpAny_bind (wpAny_attempt (wpAny_holding (wpAny_bind (L0.at (wpAny_bind (L1.at ?_))))))))
  have hx2 : (onTheHeap (Value.ref D) && Value.builtin "BaseException.__getattribute__" == Value.builtin "object.__getattribute__") = false := by
    have hx1 : (Value.builtin "BaseException.__getattribute__" == Value.builtin "object.__getattribute__") = false := by decide +kernel
    rw [hx1, Bool.and_false]
  dsimp only
  rw [hx2, if_neg Bool.false_ne_true]
  unfold getAttrByItsOwn hookBefore
  refine wpAny_bind ?_
  rw [if_pos (by rfl)]
  refine L2.at ?_
  refine wpAny_bind (wpAny_attempt (wpAny_holding ?_))
  unfold callGetattribute
  rw [if_neg (by decide)]
  unfold boundAndCalled
  refine wpAny_bind ?_
  rw [f3]
  refine wpAny_pure ?_
  refine wpAny_call (exc_call (s := ⟨h, g, d, t + 1, os⟩) Er X I ?_)
  exact PySem.W.handed_on rfl (wpAny_pure hq)
end
theorem isType_cls {K : PySem.W.Frag} {D : Addr} {M : Model} {h : Heap} (X : K.In h) (hc : (PySem.W.clsIn K D).isSome = true) : PySem.W.Looks M h (isType (.ref D)) true := by
  obtain ⟨cd, hc⟩ := Option.isSome_iff_exists.mp hc
  unfold PySem.W.clsIn at hc
  split at hc
  · next ho =>
    intro A Q E s k q
    unfold isType loadHead
    exact wpAny_bind (wpAny_loadPart (k _ _ (X _ _ ho)) (wpAny_pure q))
  · cases hc
theorem kitx_exc {K : PySem.W.Frag} {x D : Addr} {ox : Obj} (Er : ErrCls K D) : PySem.W.KitX K (.ref x) (.ref D) (fun h => PySem.W.InstAt h x ox D none) where
  ty := fun _ _ _ I => I.type
  it := fun _ _ X _ => isType_cls X Er.hc
  ne := fun h tp dd its n sl X htp => by
    obtain ⟨cd, hc⟩ := Option.isSome_iff_exists.mp Er.hc
    refine Bool.eq_false_iff.mpr fun q => ?_
    have e : D = tp := Value.ref.inj (beq_iff_eq.mp q)
    subst e
    unfold PySem.W.clsIn at hc
    split at hc
    · next ho =>
      have z := (X _ _ ho).symm.trans htp
      cases z
    · cases hc
  ca := fun X I k => exc_class Er X I k
section
variable {X : Cx}
/-- isinstance of the exception that is handled, by an own class -/
theorem call_isx : CallR X (.builtin "isinstance") (fun xs H Q => ∃ (e C D : Addr) (oe : Obj) (b : Bool), xs = [.ref e, .ref C] ∧ ((e, oe) ∈ X.pn ∧ (oe.cls = .ref D ∧ oe.dict = none) ∧ ∃ vs, oe.data = .fields vs) ∧ ErrCls X.K D ∧ PySem.W.kitOne X.K (.ref D) (.ref C) = some b ∧ Q (.bl b) H) := by
  intro pins s σ H xs us Q I r h
  obtain ⟨e, C, D, oe, b, rfl, ⟨hp, ⟨hc, hd⟩, vs, hv⟩, Er, hk, q⟩ := h
  obtain ⟨u, u', rfl, ru, ru'⟩ := vals2 r
  cases (show u = Value.ref e from ru)
  cases (show u' = Value.ref C from ru')
  have ia : PySem.W.InstAt s.heap e oe D none := ⟨(I.pin (e, oe) (List.mem_append_left _ hp)).1, hc, by unfold PySem.W.notCls; rw [hv], by rw [hd]; trivial⟩
  exact PySem.W.kia_one (kitx_exc (ox := oe) Er) I.kIn ia hk (fun z => nomatch z) fun tk => ⟨.bl b, H, I.tok _, rfl, q⟩
theorem PS.nox {st : Stmt} {t : TS} (h : PS X.nox st t) : PS X st t := fun pins s σ H D I hw =>
  wpAny_mono (h pins s σ H D (I.wish _) hw) (fun _ _ q => q.unwish) fun _ _ z => False.elim z
end
/-! ### raise -/
/-- an own class as raise wants it -/
structure Err (K : PySem.W.Frag) (mg : Str → Option Value) (x : Str) (C : Addr) : Prop where
  bound : mg x = some (.ref C)
  exc : PySem.W.excIn K C [.type "ValueError", .type "Exception", .type "BaseException", .type "object"] "ValueError.__new__" = true
theorem err_obj {K : PySem.W.Frag} {h : Heap} {C : Addr} {bmB : List Value} {newId : String} (X : K.In h) (q : PySem.W.excIn K C bmB newId = true) :
    ∃ bm N nm q bs hdct sn sub ab col dd k0 k1 k2 k3 k5 mN, h.get? C = some (excClassObj nm q C N bs bm hdct sn sub ab col dd k0 k1 k2 k3 k5 newId) ∧ h.Ns N mN ∧ mN "__init__" = none ∧ OwnTail h bmB bm := by
  unfold PySem.W.excIn at q
  split at q
  · next dd cd sl ho =>
    split at q
    · next C' bm k0 k1 k2 k3 n k5 hm hs =>
      simp only [Bool.and_eq_true, beq_iff_eq, Bool.not_eq_true'] at q
      obtain ⟨⟨⟨⟨⟨r1, r2⟩, hdel⟩, ht⟩, hok⟩, hni⟩ := q
      subst r1 r2
      cases cd with
      | mk nm bs mro ns qn hd sn sub ab col del =>
        dsimp only at hm hdel hok hni
        subst hm hdel
        cases sl with
        | mk l =>
          simp only at hs
          subst hs
          exact ⟨bm, ns, nm, qn, bs, hd, sn, sub, ab, col, dd, k0, k1, k2, k3, k5, _, X _ _ ho, .of_isNs (PySem.W.isNs_of_in X hok), PySem.W.nsMap_none_of_in X hok hni, PySem.W.tail_of_in X ht⟩
    · cases q
  · cases q
def tRaise (E : XK) (C : Addr) (ta : TA) : TS := fun _ σ H => ta σ H fun vs H1 => vs.length ≤ sizeLine ∧ E (.ref C) none H1
section
variable {P : Program} {w : World} {K : PySem.W.Frag} {mg : Str → Option Value} {base : Heap} {N : List Str} {qual : Str} {scope : Scope} {f : Addr} {cd : Value} {A : Around} {outer : List Env} {s₀ : Shared} {H₀ : Hp} {E : XK}
theorem ps_raise {x : Str} {C : Addr} {np cpos pos : Pos} {e : Expr} {es : List Expr} {t : TA} (O : Err K mg x C) (hg : Gl (cxOf (CX1 P w) P w K mg base N qual scope f cd A outer s₀ H₀ E) x)
    (ha : PA (cxOf (CX1 P w) P w K mg base N qual scope f cd A outer s₀ H₀ E) (e :: es) t) (hd : (x == ("__debug__" : Str)) = false := by decide)
    (he : starEach (e :: es) (envOfC qual scope s₀.heap.objs.size f cd) = (false, eval e (envOfC qual scope s₀.heap.objs.size f cd)) :: starEach es (envOfC qual scope s₀.heap.objs.size f cd) := by rfl)
    (hpl : (backTo cpos (starEach es (envOfC qual scope s₀.heap.objs.size f cd))).any (·.1) = false := by rfl) :
    PS (cxOf (CX1 P w) P w K mg base N qual scope f cd A outer s₀ H₀ E) (.Raise (some (.Call (.Name x np) (e :: es) [] cpos)) none pos) (tRaise E C t) := by
  intro pins s σ H D I h
  obtain ⟨bm, Nn, nm, q, bs, hdct, sn, sub, ab, col, dd, k0, k1, k2, k3, k5, mN, hC, hN, hni, T⟩ := err_obj I.ok.mod.kin O.exc
  refine wpAny_Raise_call_subT (C := C) (nm := nm) (q := q) (N := Nn) (bs := bs) (bm := bm) (hdct := hdct) (sn := sn) (sub := sub) (ab := ab) (col := col) (dd := dd) (k0 := k0) (k1 := k1) (k2 := k2) (k3 := k3) (k5 := k5) (env := envOfC qual scope s₀.heap.objs.size f cd)
    F.excBase_ValueError (mN := mN) (T.hasType F.excBase_ValueError.hasBase) (I.ok.hd rfl) ?_ hni (ld_glob I hg O.bound ⟨rfl, ?_⟩ hd)
  · rw [he]
    show (false || (backTo cpos (starEach es (envOfC qual scope s₀.heap.objs.size f cd))).any (·.1)) = false
    rw [hpl]; rfl
  · have g := ha cpos pins s σ H _ I h
    change wpAny _ _ (spliced (backTo cpos (starEach (e :: es) (envOfC qual scope s₀.heap.objs.size f cd)))) _ _ s at g
    rw [he] at g ⊢
    refine Calls.evalArgs_plain (thn g fun us s2 ⟨vs, H1, I1, r, hl, q⟩ => ?_)
    exact ⟨rfl, by rw [← r.length]; exact hl, I1.bk _ _ hC, hN.keeps I1.bk, T.keeps I1.bk, fun h' x hx => raise_out I1 hx rfl I1.bare q⟩
end
/-! ### defs and methods whose callers take their exceptions -/
structure Callee1 (P : Program) (w : World) (K : PySem.W.Frag) (mg : Str → Option Value) (base : Heap) (x : Str) (k : Nat) (ps : List Str) (sp : Sp) : Prop where
  ex : ∃ f fd, FnOk P w K mg base (CX1 P w) k f fd ps sp ∧ mg x = some (.ref f) ∧ PySem.W.keepIn K (.ref f) = true ∧ Binds K fd ps []
/-- a method of the class at C, as the top has left it -/
structure MethAt (K : PySem.W.Frag) (C : Addr) (cn m : Str) (st : Stmt) : Prop where
  ex : ∃ f fd, Fun K m (cn ++ Str.ofString "." ++ m) st f fd ∧ Meth K C m f
structure Method (P : Program) (w : World) (K : PySem.W.Frag) (mg : Str → Option Value) (base : Heap) (C : Addr) (m : Str) (CX : CXT) (k : Nat) (ps : List Str) (sp : Sp) : Prop where
  ex : ∃ f fd, FnOk P w K mg base CX k f fd ps sp ∧ Meth K C m f ∧ Binds K fd ps []
section
variable {P : Program} {w : World} {K : PySem.W.Frag} {mg : Str → Option Value} {base : Heap}
theorem Fun.ok1 {x qual : Str} {st : Stmt} {f : Addr} {fd : FuncData} {N ps : List Str} {k : Nat} {sp : Sp} (F : Fun K x qual st f fd) (S : FnScope N ps (defScope st)) (len : ∀ vs H Q E, sp vs H Q E → vs.length = ps.length)
    (hbody : ∀ (cdv : Value) (A : Around) (outer : List Env) (s : Shared) (H : Hp) (vs : List V) (Q : VK) (E : XK), Room k (A.deeper (envOfC qual (defScope st) s.heap.objs.size f cdv)) → sp vs H Q E →
      ∃ t, PSs (cxOf (CX1 P w) P w K mg base N qual (defScope st) f cdv A outer s H E) (defBody st) t ∧ t { nx := fun _ H' => Q .non H', rt := Q } (start N vs) H) : FnOk P w K mg base (CX1 P w) (k + 1) f fd ps sp := by
  obtain ⟨oc, od, kV, doc, pm, an, cdv, ct, osl, rfl, lk, hcd⟩ := F.ex
  exact fn_of lk hcd S len fun A outer s H vs Q E hr hsp => hbody cdv A outer s H vs Q E hr hsp
theorem DefAt.callee1 {x : Str} {st : Stmt} {N ps : List Str} {k : Nat} {sp : Sp} (D : DefAt K mg x st) (S : FnScope N ps (defScope st))
    (hb : ∀ (kV doc pm : Value) (an : Option Addr) (cdv ct : Value) (us : List Value), us.length = ps.length → bindArgs (PySem.W.fnOf x x (defArgs st) (defBody st) (defScope st) .none kV doc pm an cdv ct) ⟨us, []⟩ = pure (ps.zip us))
    (len : ∀ vs H Q E, sp vs H Q E → vs.length = ps.length)
    (hbody : ∀ (f : Addr) (cdv : Value) (A : Around) (outer : List Env) (s : Shared) (H : Hp) (vs : List V) (Q : VK) (E : XK), Room k (A.deeper (envOfC x (defScope st) s.heap.objs.size f cdv)) → sp vs H Q E →
      ∃ t, PSs (cxOf (CX1 P w) P w K mg base N x (defScope st) f cdv A outer s H E) (defBody st) t ∧ t { nx := fun _ H' => Q .non H', rt := Q } (start N vs) H) : Callee1 P w K mg base x (k + 1) ps sp := by
  obtain ⟨f, fd, F, m⟩ := D.ex
  exact ⟨f, fd, F.ok1 S len (fun cdv A outer s H vs Q E hr h => hbody f cdv A outer s H vs Q E hr h), m, F.kp, F.binds hb⟩
theorem MethAt.meth1 {cn m : Str} {C : Addr} {st : Stmt} {N ps : List Str} {k : Nat} {sp : Sp} (D : MethAt K C cn m st) (S : FnScope N ps (defScope st))
    (hb : ∀ (kV doc pm : Value) (an : Option Addr) (cdv ct : Value) (us : List Value), us.length = ps.length → bindArgs (PySem.W.fnOf m (cn ++ Str.ofString "." ++ m) (defArgs st) (defBody st) (defScope st) .none kV doc pm an cdv ct) ⟨us, []⟩ = pure (ps.zip us))
    (len : ∀ vs H Q E, sp vs H Q E → vs.length = ps.length)
    (hbody : ∀ (f : Addr) (cdv : Value) (A : Around) (outer : List Env) (s : Shared) (H : Hp) (vs : List V) (Q : VK) (E : XK), Room k (A.deeper (envOfC (cn ++ Str.ofString "." ++ m) (defScope st) s.heap.objs.size f cdv)) → sp vs H Q E →
      ∃ t, PSs (cxOf (CX1 P w) P w K mg base N (cn ++ Str.ofString "." ++ m) (defScope st) f cdv A outer s H E) (defBody st) t ∧ t { nx := fun _ H' => Q .non H', rt := Q } (start N vs) H) : Method P w K mg base C m (CX1 P w) (k + 1) ps sp := by
  obtain ⟨f, fd, F, m⟩ := D.ex
  exact ⟨f, fd, F.ok1 S len (fun cdv A outer s H vs Q E hr h => hbody f cdv A outer s H vs Q E hr h), m, F.binds hb⟩
theorem MethAt.meth0 {cn m : Str} {C : Addr} {st : Stmt} {N ps : List Str} {k : Nat} {sp : Sp} (D : MethAt K C cn m st) (S : FnScope N ps (defScope st))
    (hb : ∀ (kV doc pm : Value) (an : Option Addr) (cdv ct : Value) (us : List Value), us.length = ps.length → bindArgs (PySem.W.fnOf m (cn ++ Str.ofString "." ++ m) (defArgs st) (defBody st) (defScope st) .none kV doc pm an cdv ct) ⟨us, []⟩ = pure (ps.zip us))
    (len : ∀ vs H Q E, sp vs H Q E → vs.length = ps.length)
    (hbody : ∀ (f : Addr) (cdv : Value) (A : Around) (outer : List Env) (s : Shared) (H : Hp) (vs : List V) (Q : VK) (E : XK), Room k (A.deeper (envOfC (cn ++ Str.ofString "." ++ m) (defScope st) s.heap.objs.size f cdv)) → sp vs H Q E →
      ∃ t, PSs (cxOf CX0 P w K mg base N (cn ++ Str.ofString "." ++ m) (defScope st) f cdv A outer s H E).nox (defBody st) t ∧ t { nx := fun _ H' => Q .non H', rt := Q } (start N vs) H) : Method P w K mg base C m CX0 (k + 1) ps sp := by
  obtain ⟨f, fd, F, m⟩ := D.ex
  exact ⟨f, fd, F.ok S len (fun cdv A outer s H vs Q E hr h => hbody f cdv A outer s H vs Q E hr h), m, F.binds hb⟩
end
section
variable {X : Cx} {x m : Str} {k : Nat} {ps : List Str} {sp : Sp} {p pos apos : Pos} {o e : Expr} {es : List Expr} {ta : TE} {t : TA} {E : XK} {C : Addr} {CX : CXT}
theorem pe_fn1 (F : Callee1 X.prog X.w X.K X.mg X.base x k ps sp) (hr : Room k X.A) (hx : Passes (CX1 X.prog X.w) X E) (hg : Gl X x) (ha : PA X (e :: es) t) (hdb : (x == ("__debug__" : Str)) = false := by decide)
    (he : starEach (e :: es) X.env = (false, eval e X.env) :: starEach es X.env := by rfl) (hpl : (backTo pos (starEach es X.env)).any (·.1) = false := by rfl) : PE X (.Call (.Name x p) (e :: es) [] pos) (tCall sp [] E t) := by
  obtain ⟨f, fd, F, hm, hk, hb⟩ := F.ex
  exact pe_call F hr hg hm hk hb .nil hx ha hdb he hpl
theorem pe_mt {pl : Sem Bool} (he : PE X o ta) (c : Cls X.K C) (F : Method X.prog X.w X.K X.mg X.base C m CX k ps sp) (hr : Room k X.A) (hx : Passes CX X E) (ha : PA X (e :: es) t)
    (hst : starEach (e :: es) X.env = (false, eval e X.env) :: starEach es X.env := by rfl) (hpl : (backTo pos (starEach es X.env)).any (·.1) = false := by rfl)
    (ht : eval (.Call (.Attribute o m apos) (e :: es) [] pos) X.env = (do
      let ov ← eval o X.env
      standAt apos.atName
      let (f, first) ← holding [ov] (getMethod ov m pl)
      callWith pos f first (backTo pos (starEach (e :: es) X.env)) (backToKw pos (keywordEach [] X.env))) := by rfl) :
    PE X (.Call (.Attribute o m apos) (e :: es) [] pos) (tMeth C m sp [] E ta t) := by
  obtain ⟨f, fd, F, hm, hb⟩ := F.ex
  exact pe_meth he c hm F hr hb .nil hx ha hst hpl ht
theorem pe_mt0 {pl : Sem Bool} (he : PE X o ta) (c : Cls X.K C) (F : Method X.prog X.w X.K X.mg X.base C m CX k ps sp) (hr : Room k X.A) (hx : Passes CX X E)
    (ht : eval (.Call (.Attribute o m apos) [] [] pos) X.env = (do
      let ov ← eval o X.env
      standAt apos.atName
      let (f, first) ← holding [ov] (getMethod ov m pl)
      callWith pos f first (backTo pos (starEach [] X.env)) (backToKw pos (keywordEach [] X.env))) := by rfl) :
    PE X (.Call (.Attribute o m apos) [] [] pos) (tMeth C m sp [] E ta tNil) := by
  obtain ⟨f, fd, F, hm, hb⟩ := F.ex
  exact pe_meth0 he c hm F hr hb .nil hx ht
end
end L2

namespace L2
open PySem PySem.Spec PyProof.Rows

/-! ## Unpacking of lists -/
section
variable {X : Cx}
def gLst (K : PySem.W.Frag) (n : Nat) (t : TGs) : TG := fun v σ H Q => ∃ a xs, v = .ref a ∧ SqL K H a xs ∧ xs.length = n ∧ t xs σ H Q
theorem pg_lst {es : List Expr} {k : Nat} {t : TGs} {n : Nat} {pos : Pos} (hc : X.calm = true) (h : PGs X es t)
    (hn : (assignEach es X.env).length = n := by rfl) (hst : (assignEach es X.env).findIdx? (·.1) = none := by rfl) : PG X (.Tuple es k pos) (gLst X.K n t) := by
  intro pins s σ H v u Q I r hw
  obtain ⟨a, xs, e1, hq, hl, hw⟩ := hw
  subst e1
  cases r
  obtain ⟨its, rv, p, hz⟩ := I.list hq
  rw [PyProof.Rows.assign_Tuple]
  refine wpAny_bind (wpAny_standAt ?_)
  unfold unpack
  have hsz : (assignEach es X.env).length = its.toArray.size := by simp [hn, ← hl, rv.length]
  rw [hsz, hst]
  refine wpAny_bind (wpAny_holding (PySem.W.kun_itemsOf (I.ok.hd hc) p.isList fun h' hx => ?_))
  have I1 : Inv X pins σ H { s with heap := h' } := I.kept (t' := s.toks) fun b o e => hx b o (Nat.ne_of_lt (Heap.lt_size e)) e
  exact h pins _ σ H xs _ Q I1 (by simpa using rv) hw
end
/-! ## Lists and tuples compared as data -/
mutual
inductive VD (K : PySem.W.Frag) (H : Hp) : V → PyData → Prop
  | non : VD K H .non .none
  | bl (b : Bool) : VD K H (.bl b) (.bool b)
  | int (i : Int) : VD K H (.int i) (.int i)
  | str (x : Str) : VD K H (.str x) (.str x)
  | lst {a : Addr} {xs : List V} {ds : List PyData} : SqL K H a xs → VDs K H xs ds → VD K H (.ref a) (.list ds)
  | tup {a : Addr} {xs : List V} {ds : List PyData} : SqT K H a xs → VDs K H xs ds → VD K H (.ref a) (.tuple ds)
inductive VDs (K : PySem.W.Frag) (H : Hp) : List V → List PyData → Prop
  | nil : VDs K H [] []
  | cons {x : V} {d : PyData} {xs : List V} {ds : List PyData} : VD K H x d → VDs K H xs ds → VDs K H (x :: xs) (d :: ds)
end
theorem VDs.map {K : PySem.W.Frag} {H : Hp} {α : Type} {f : α → V} {g : α → PyData} : ∀ {l : List α}, (∀ x ∈ l, VD K H (f x) (g x)) → VDs K H (l.map f) (l.map g)
  | [], _ => .nil
  | x :: l, h => .cons (h x List.mem_cons_self) (VDs.map fun y hy => h y (List.mem_cons_of_mem _ hy))
section
variable {X : Cx} {pins : List (Addr × Obj)} {σ : St} {H : Hp} {s : Shared}
mutual
theorem VD.reads (I : Inv X pins σ H s) : ∀ {v : V} {d : PyData} {u : Value}, VD X.K H v d → RelV v u → ∃ as, Reads s.heap u d as
  | _, _, _, .non, r => by cases r; exact ⟨_, .none⟩
  | _, _, _, .bl b, r => by cases r; exact ⟨_, .bool b⟩
  | _, _, _, .int i, r => by obtain ⟨t, rfl⟩ := r; exact ⟨_, .int i t⟩
  | _, _, _, .str x, r => by obtain ⟨t, rfl⟩ := r; exact ⟨_, .str x t⟩
  | _, _, _, .lst hq hs, r => by
    cases r
    obtain ⟨its, rv, ⟨o, n, e, c, _, d⟩, _⟩ := I.list hq
    obtain ⟨as, ra⟩ := VDs.reads I hs rv
    exact ⟨_, .list e c d (by simpa using ra)⟩
  | _, _, _, .tup hq hs, r => by
    cases r
    obtain ⟨its, rv, ⟨o, e, c, n, d⟩, _⟩ := I.tuple hq
    obtain ⟨as, ra⟩ := VDs.reads I hs rv
    exact ⟨_, .tuple e c d (by simpa using ra)⟩
theorem VDs.reads (I : Inv X pins σ H s) : ∀ {vs : List V} {ds : List PyData} {us : List Value}, VDs X.K H vs ds → Vals vs us → ∃ as, ReadsAll s.heap us ds as
  | _, _, _, .nil, r => by cases r; exact ⟨_, .nil⟩
  | _, _, _, .cons h hs, r => by
    cases r with
    | cons r rr =>
      obtain ⟨a1, r1⟩ := VD.reads I h r
      obtain ⟨a2, r2⟩ := VDs.reads I hs rr
      exact ⟨_, .cons r1 r2⟩
end
end
section
variable {X : Cx}
def rEqD (K : PySem.W.Frag) (neg : Bool) : R2 := fun x y H Q => ∃ d e, VD K H x d ∧ VD K H y e ∧ SeqAt.shaped d = true ∧ SeqAt.shaped e = true ∧ Q (.bl (if neg then !PyData.eqv d e else PyData.eqv d e)) H
theorem op_eqD (hu : X.A.units + 64 < cLine) : OpR X (compareOp .Eq) (rEqD X.K false) := by
  intro pins s σ H x y v u Q I rx ry h
  obtain ⟨d, e, hd, he, s1, s2, q⟩ := h
  obtain ⟨a1, r1⟩ := hd.reads I rx
  obtain ⟨a2, r2⟩ := he.reads I ry
  exact eq_dataH r1 r2 s1 s2 hu ⟨.bl _, H, I, rfl, q⟩
/-! ## sorted -/
theorem vals_strs : ∀ {xs : List Str} {us : List Value}, StrsAre us xs → Vals (xs.map V.str) us
  | _, _, .nil => .nil
  | _, _, .cons _ t r => .cons ⟨t, rfl⟩ (vals_strs r)
theorem sorted_fin {pins : List (Addr × Obj)} {σ : St} {H : Hp} {s : Shared} {Q : VK} {vs : List Value} {out : Array Value} {ys : List V} (I : Inv X pins σ H s) (hl : ys.length ≤ sizeLine) (r : Vals ys out.toList)
    (q : Q (.ref (s.heap.objs.size + 1)) (upd H (s.heap.objs.size + 1) (.lst ys))) : EP X pins σ Q (.ref (s.heap.objs.size + 1)) { s with heap := sortedAll s.heap vs out } := by
  obtain ⟨e, he⟩ := sortedAll_at s.heap vs out
  exact ⟨.ref (s.heap.objs.size + 1), _, I.laid (t' := s.toks) (fun b o => sortedAll_old) (Nat.le_succ _) (show ObjOk X.prog X.w _ _ _ (.lst ys) from ⟨hl, out.toList, e, r, by simpa using he⟩), rfl, q⟩
theorem call_sortedI : CallR X (.builtin "sorted") (fun xs H Q => ∃ (a : Addr) (ns : List Int), xs = [V.ref a] ∧ SqL X.K H a (ns.map V.int) ∧ ns.length < 64 ∧ ∀ p (ns' : List Int), H p = none → ns'.Perm ns → ns'.Pairwise (· ≤ ·) → Q (.ref p) (upd H p (.lst (ns'.map V.int)))) := by
  intro pins s σ H xs us Q I r h
  obtain ⟨a, ns, rfl, hq, hb, q⟩ := h
  obtain ⟨u, rfl, ru⟩ := vals1 r
  cases ru
  obtain ⟨its, rv, p, hz⟩ := I.list hq
  have hl : ns.length = its.length := by have := rv.length; rwa [List.length_map] at this
  refine sorted_ints p.isList (ints_are rv) (by omega) fun out ns' a1 a2 a3 => ?_
  exact sorted_fin I (by rw [List.length_map, a2.length_eq]; exact Nat.le_trans (Nat.le_of_lt hb) (by decide)) (vals_ints a1) (q _ ns' (I.hok.fresh (Nat.le_succ _)) a2 a3)
end
end L2
namespace L2
open PySem PySem.Spec PyProof.Rows
/-! ## dicts with texts as keys -/
theorem strsAre_of : ∀ {l : List Value} {ss : List Str}, l.length = ss.length → (∀ (j : Nat) (v : Value) (x : Str), l[j]? = some v → ss[j]? = some x → ∃ t, v = .str x t) → StrsAre l ss
  | [], [], _, _ => .nil
  | v :: l, x :: ss, hl, h => by
    obtain ⟨t, rfl⟩ := h 0 v x rfl rfl
    exact .cons _ _ (strsAre_of (by simpa using hl) fun j u y e1 e2 => h (j + 1) u y (by simpa using e1) (by simpa using e2))
theorem KV.get {κ : Type} : ∀ {a : List (κ × V)} {b : List (κ × Value)} {i : Nat} {k : κ} {x : Value}, KV a b → b[i]? = some (k, x) → ∃ v, a[i]? = some (k, v) ∧ RelV v x
  | [], _, _, _, _, h, e => by cases h; simp at e
  | (k', v') :: a, _, i, k, x, h, e => by
    cases h with
    | cons r rr =>
      cases i with
      | zero =>
        simp at e
        obtain ⟨r1, r2⟩ := r
        simp only at r1
        rw [e] at r1 r2
        exact ⟨v', by rw [r1]; rfl, r2⟩
      | succ i => exact KV.get (i := i) rr (by simpa using e)
section
variable {X : Cx}
/-- sorted(d) -/
theorem call_sortedD (hc : X.calm = true) : CallR X (.builtin "sorted") (fun xs H Q => ∃ (a : Addr) (kvs : List (Key × V)) (ss : List Str), xs = [V.ref a] ∧ Rd H a (.dK kvs) ∧ kvs.map (·.1) = ss.map Sum.inr ∧ ss.length < 64 ∧
    ∀ p (ss' : List Str), H p = none → ss'.Perm ss → sortedS ss' = true → Q (.ref p) (upd H p (.lst (ss'.map V.str)))) := by
  intro pins s σ H xs us Q I r h
  obtain ⟨a, kvs, ss, rfl, hq, hk, h64, q⟩ := h
  obtain ⟨u, rfl, ru⟩ := vals1 r
  cases ru
  obtain ⟨hz, lo, vs, kv, hD⟩ := (show ObjOk X.prog X.w H s.heap a (.dK kvs) from hq.ok I.hok)
  obtain ⟨ep, hat⟩ := hD.dictAt
  have hlen : vs.length = ss.length := by
    have e1 := kv.length
    have e2 := congrArg List.length hk
    rw [List.length_map, List.length_map] at e2
    omega
  have big64 : (64 : Nat) ≤ sizeLine := by decide
  refine Calls.call_function_entry kind_sorted plain_sorted entry_sorted (args_sorted1 _) ?_
  unfold Builtin.«sorted»
  refine wpAny_bind (m := checkCount "sorted" 1 1 _) (wpAny_pure ?_)
  refine wpAny_bind (PySem.W.kdu_collect (A := X.A.in1) (PySem.W.kdl_dict (knd := mixKind X.prog X.w) (kvs := vs) (ep := ep) lo) (I.ok.hd hc) hat (by omega) fun h' tk acc hkeep hacc => ?_)
  have hl : acc.toList.length = vs.length := by rw [Array.length_toList]; exact hacc.1
  have hS : StrsAre acc.toList ss := by
    refine strsAre_of (by omega) fun j v x e1 e2 => ?_
    obtain ⟨k, y, e3, hk2⟩ := hacc.2 j v (by rw [← Array.getElem?_toList]; exact e1)
    obtain ⟨v', e4, _⟩ := kv.get e3
    have e5 : (kvs.map (·.1))[j]? = some k := by rw [List.getElem?_map, e4]; rfl
    rw [hk, List.getElem?_map, e2] at e5
    have e6 : Sum.inr x = k := Option.some.inj e5
    subst e6
    rcases keyIs_shape (show keyIs (Sum.inr x) v = true from hk2) with ⟨i, t, e, _⟩ | ⟨y, t, e, e7⟩
    · cases e
    · cases e; exact ⟨t, e7⟩
  refine wpAny_bind (wpAny_newList ?_ (by rw [hl]; omega))
  have hoL : (h'.push (seqObj "list" acc.toList.toArray 0)).get? h'.objs.size = some (seqObj "list" acc.toList.toArray 0) := Heap.get?_push_size _ rfl
  refine wpAny_bind (wpAny_holding (wpAny_call_entry slot_list_sort ⟨_, hoL, rfl⟩ entry_list_sort (list_sort_treeK strKind_oneLt hoL hS.keysOf (fun v₁ v₂ rest e => keyKind_strs (by rw [← e]; exact hS)) (by omega) fun st' hp hs => ⟨_, rfl, ?_⟩) (args_list_sort _)))
  obtain ⟨ss', a1, a2, a3⟩ := sorted_out_str hS hp hs
  refine wpAny_pure ⟨_, rfl, ?_⟩
  obtain ⟨e, he⟩ := sortedHeap_at (out := (arrOf st').map (·.2)) hoL
  have I1 : Inv X pins σ H { s with heap := h', toks := tk } := I.kept hkeep
  have I2 := Inv.laid (o := .lst (ss'.map V.str)) (a := h'.objs.size) (h' := sortedHeap (h'.push (seqObj "list" acc.toList.toArray 0)) h'.objs.size acc.toList ((arrOf st').map (·.2))) (t' := tk) I1 (fun b o hb => by
    have lt := Heap.lt_size hb
    rw [sortedHeap_old (Nat.ne_of_lt lt) (by rw [Heap.size_push]; exact Nat.lt_succ_of_lt lt)]
    exact Heap.get?_push_of_some _ hb) (Nat.le_refl _) (show ObjOk X.prog X.w _ _ _ (.lst (ss'.map V.str)) from ⟨by rw [List.length_map, a2.length_eq]; omega, _, e, vals_strs a1, by rw [Array.toArray_toList]; exact he⟩)
  exact ⟨.ref h'.objs.size, _, I2, rfl, q _ ss' (I1.hok.fresh (Nat.le_refl _)) a2 a3⟩
end
end L2

namespace L2
open PySem PySem.Spec PyProof.Rows

/-! ## Walking a dict: through the walk its record is held fast -/
section
variable {X : Cx} {pins : List (Addr × Obj)} {σ : St} {H : Hp} {s : Shared} {a : Addr} {kvs : List (Key × V)}
end
section
variable {X : Cx} {tg : Expr}
end
end L2

namespace L2
open PySem PySem.Spec PyProof.Rows

/-! ## A def that the suite of a handler calls -/
structure HCallee (P : Program) (w : World) (K : PySem.W.Frag) (mg : Str → Option Value) (base : Heap) (x : Str) (k : Nat) (ps : List Str) (spf : Addr → Value → Sp) : Prop where
  ex : ∃ f fd, (∀ (e : Addr) (oe : Obj) (c : Value) (vs : Array Value), oe.cls = c ∧ oe.dict = none → oe.data = .fields vs → vs[2]? = some .none → FnOkH P w K mg base e oe k f fd ps (spf e c)) ∧
    mg x = some (.ref f) ∧ PySem.W.keepIn K (.ref f) = true ∧ Binds K fd ps []
theorem DefAt.hcallee {P : Program} {w : World} {K : PySem.W.Frag} {mg : Str → Option Value} {base : Heap} {x : Str} {st : Stmt} {N ps : List Str} {k : Nat} {spf : Addr → Value → Sp} (D : DefAt K mg x st) (S : FnScope N ps (defScope st))
    (hb : ∀ (kV doc pm : Value) (an : Option Addr) (cdv ct : Value) (us : List Value), us.length = ps.length → bindArgs (PySem.W.fnOf x x (defArgs st) (defBody st) (defScope st) .none kV doc pm an cdv ct) ⟨us, []⟩ = pure (ps.zip us))
    (len : ∀ e c vs H Q E, spf e c vs H Q E → vs.length = ps.length)
    (hbody : ∀ (f : Addr) (cdv : Value) (A : Around) (outer : List Env) (s : Shared) (H : Hp) (vs : List V) (Q : VK) (e : Addr) (oe : Obj) (c : Value) (ws : Array Value), oe.cls = c ∧ oe.dict = none → oe.data = .fields ws → QH e oe (cxH P w K mg base N x (defScope st) f cdv A outer s H e oe) → spf e c vs H Q E0 →
      ∃ t, PSs (cxH P w K mg base N x (defScope st) f cdv A outer s H e oe) (defBody st) t ∧ t { nx := fun _ H' => Q .non H', rt := Q } (start N vs) H) : HCallee P w K mg base x (k + 1) ps spf := by
  obtain ⟨f, fd, F, m⟩ := D.ex
  have hbi := F.binds hb
  obtain ⟨oc, od, kV, doc, pm, an, cdv, ct, osl, rfl, lk, hcd⟩ := id F.ex
  exact ⟨f, _, fun e oe c ws hc hd h2 => fn_ofH lk hcd S (len e c) fun A outer s H vs Q hh h => hbody f cdv A outer s H vs Q e oe c ws hc hd (cxH_q hh hd h2) h, m, F.kp, hbi⟩
section
variable {X : Cx} {f : Str} {k k' : Nat} {ps : List Str} {spf : Addr → Value → Sp} {p pos : Pos} {e : Expr} {es : List Expr} {t : TA} {x : Addr} {c : Value} {ox : Obj} {pn : List (Addr × Obj)} {vs : Array Value}
theorem pe_hand (C : HCallee X.prog X.w X.K X.mg X.base f k ps spf) (hr : Room k' X.A) (hx : x ∉ frs X.stack) (hc : ox.cls = c ∧ ox.dict = none) (hd : ox.data = .fields vs) (h2 : vs[2]? = some .none) (hk : k ≤ k') (hg : Gl X f)
    (ha : PA (cxHand X x ox pn) (e :: es) t) (hdb : (f == ("__debug__" : Str)) = false := by decide)
    (he : starEach (e :: es) X.env = (false, eval e X.env) :: starEach es X.env := by rfl) (hpl : (backTo pos (starEach es X.env)).any (·.1) = false := by rfl) : PE (cxHand X x ox pn) (.Call (.Name f p) (e :: es) [] pos) (tCall (spf x c) [] E0 t) := by
  obtain ⟨fa, fd, F, m, kp, hb⟩ := C.ex
  exact pe_callH (X := cxHand X x ox pn) (F x ox c vs hc hd h2) (Room.mark (hr.mono hk)) List.mem_cons_self hx hg m kp hb ha hdb he hpl
end
/-- C() of an own class -/
structure Maker (P : Program) (w : World) (K : PySem.W.Frag) (mg : Str → Option Value) (base : Heap) (x : Str) (C : Addr) (CX : CXT) (k : Nat) (ps : List Str) (sp : Sp) : Prop where
  ex : ∃ f fd, Mk K C f ∧ FnOk P w K mg base CX k f fd ps sp ∧ mg x = some (.ref C) ∧ Binds K fd ps []
theorem pe_mk0 {X : Cx} {x : Str} {C : Addr} {CX : CXT} {k : Nat} {ps : List Str} {sp : Sp} {E : XK} {p pos : Pos} (M : Maker X.prog X.w X.K X.mg X.base x C CX k ps sp) (hr : Room (k + 1) X.A) (hx : Passes CX X E) (hg : Gl X x) (hdb : (x == ("__debug__" : Str)) = false := by decide) :
    PE X (.Call (.Name x p) [] [] pos) (tMake C sp [] E tNil) := by
  obtain ⟨f, fd, M, F, m, b⟩ := M.ex
  exact pe_make0 M F hr hg m b .nil hx hdb
/-! ## Rules whose reading names the fragment, for contexts under binders -/
section
variable {Y : Cx}
theorem op_notIn_seq' (K : PySem.W.Frag) (h : Y.K = K) : OpR Y (compareOp .NotIn) (rIn K true) := by subst h; exact op_notIn_seq
theorem ix_list' (K : PySem.W.Frag) (h : Y.K = K) : IxR Y (rIxL K) := by subst h; exact ix_list
theorem ix_tup' (K : PySem.W.Frag) (h : Y.K = K) : IxR Y (rIxT K) := by subst h; exact ix_tup
end
/-! ## Long lists of arguments: wrapped, so that nothing is unfolded while they are put together -/
def isStar : Expr → Bool
  | .Starred _ _ => true
  | _ => false
theorem star_cons {e : Expr} (es : List Expr) (env : Env) (h : isStar e = false) : starEach (e :: es) env = (false, eval e env) :: starEach es env := by
  cases e <;> first | rfl | cases h
structure QA (X : Cx) (es : List Expr) (t : TA) : Prop where h : PA X es t
structure QE (X : Cx) (e : Expr) (t : TE) : Prop where h : PE X e t
section
variable {X : Cx} {e : Expr} {es : List Expr} {te : TE} {t : TA} {pos : Pos}
theorem qe (h : PE X e te) : QE X e te := ⟨h⟩
theorem qa_nil : QA X [] tNil := ⟨pa_nil⟩
theorem qa_cons (ha : QE X e te) (hr : QA X es t) (h : isStar e = false := by rfl) : QA X (e :: es) (tCons te t) := ⟨pa_cons ha.h hr.h (star_cons es X.env h)⟩
theorem qe_tup {k} (h : QA X es t) : QE X (.Tuple es k pos) (tTup t) := ⟨pe_tup h.h⟩
theorem qe_lst (h : QA X es t) : QE X (.List es pos) (tLst t) := ⟨pe_lst h.h⟩
end
structure QS (X : Cx) (st : Stmt) (t : TS) : Prop where h : PS X st t
structure QSs (X : Cx) (st : List Stmt) (t : TS) : Prop where h : PSs X st t
section
variable {X : Cx} {st : Stmt} {rest : List Stmt} {t u : TS} {a b e : Expr} {ta tb te : TE} {pos : Pos}
theorem qs (h : PS X st t) : QS X st t := ⟨h⟩
theorem qss_one (h : QS X st t) : QSs X [st] t := ⟨pss_one h.h⟩
theorem qe_ix {r : R2} (hr : IxR X r) (ha : QE X a ta) (hb : QE X b tb) (hs : PlainIx b) : QE X (.Subscript a b pos) (tOp r ta tb) := ⟨pe_ix hr ha.h hb.h hs⟩
theorem qe_op {op : Operator} {r : R2} (ho : OpR X (binaryOp op) r) (ha : QE X a ta) (hb : QE X b tb) : QE X (.BinOp a op b pos) (tOp r ta tb) := ⟨pe_op ho ha.h hb.h⟩
theorem qss_cons (h : QS X st t) (hr : QSs X rest u) : QSs X (st :: rest) (tSeq t u) := ⟨pss_cons h.h hr.h⟩
theorem qss_cut (h : QS X st t) (hr : QSs X rest u) : QSs X (st :: rest) (tCut t u) := ⟨pss_cut h.h hr.h⟩
theorem qs_ret (h : QE X e te) : QS X (.Return (some e) pos) (tRet te) := ⟨ps_ret h.h⟩
theorem qs_set {i : Nat} {x : Str} {pos' : Pos} (hN : X.N.Nodup) (hi : X.N[i]? = some x) (hx : Loc X.env.scope x) (he : QE X e te) (hs : swapsWith e (some (.Name x pos')) pos.line X.env = pure false := by rfl) (hf : X.fn x = true ∨ X.env.scope.names.lookup x = some .local := by first | exact .inl rfl | exact .inr rfl | assumption) :
    QS X (.Assign [.Name x pos'] e pos) (tAsg te (gName i)) := ⟨ps_set hN hi hx he.h hs hf⟩
end
theorem DefAt.calleeQ {P : Program} {w : World} {K : PySem.W.Frag} {mg : Str → Option Value} {base : Heap} {x : Str} {st : Stmt} {N ps : List Str} {k : Nat} {sp : Sp} (D : DefAt K mg x st) (S : FnScope N ps (defScope st))
    (hb : ∀ (kV doc pm : Value) (an : Option Addr) (cdv ct : Value) (us : List Value), us.length = ps.length → bindArgs (PySem.W.fnOf x x (defArgs st) (defBody st) (defScope st) .none kV doc pm an cdv ct) ⟨us, []⟩ = pure (ps.zip us))
    (len : ∀ vs H Q E, sp vs H Q E → vs.length = ps.length)
    (hbody : ∀ (f : Addr) (cdv : Value) (A : Around) (outer : List Env) (s : Shared) (H : Hp) (vs : List V) (Q : VK) (E : XK), Room k (A.deeper (envOfC x (defScope st) s.heap.objs.size f cdv)) → sp vs H Q E →
      ∃ t, QSs (cxOf CX0 P w K mg base N x (defScope st) f cdv A outer s H E).nox (defBody st) t ∧ t { nx := fun _ H' => Q .non H', rt := Q } (start N vs) H) : Callee P w K mg base x (k + 1) ps sp :=
  D.callee S hb len fun f cdv A outer s H vs Q E hr h => let ⟨t, q, r⟩ := hbody f cdv A outer s H vs Q E hr h; ⟨t, q.h, r⟩
theorem DefAt.hcalleeQ {P : Program} {w : World} {K : PySem.W.Frag} {mg : Str → Option Value} {base : Heap} {x : Str} {st : Stmt} {N ps : List Str} {k : Nat} {spf : Addr → Value → Sp} (D : DefAt K mg x st) (S : FnScope N ps (defScope st))
    (hb : ∀ (kV doc pm : Value) (an : Option Addr) (cdv ct : Value) (us : List Value), us.length = ps.length → bindArgs (PySem.W.fnOf x x (defArgs st) (defBody st) (defScope st) .none kV doc pm an cdv ct) ⟨us, []⟩ = pure (ps.zip us))
    (len : ∀ e c vs H Q E, spf e c vs H Q E → vs.length = ps.length)
    (hbody : ∀ (f : Addr) (cdv : Value) (A : Around) (outer : List Env) (s : Shared) (H : Hp) (vs : List V) (Q : VK) (e : Addr) (oe : Obj) (c : Value) (ws : Array Value), oe.cls = c ∧ oe.dict = none → oe.data = .fields ws → QH e oe (cxH P w K mg base N x (defScope st) f cdv A outer s H e oe) → spf e c vs H Q E0 →
      ∃ t, QSs (cxH P w K mg base N x (defScope st) f cdv A outer s H e oe) (defBody st) t ∧ t { nx := fun _ H' => Q .non H', rt := Q } (start N vs) H) : HCallee P w K mg base x (k + 1) ps spf :=
  D.hcallee S hb len fun f cdv A outer s H vs Q e oe c ws hc hd hq h => let ⟨t, q, r⟩ := hbody f cdv A outer s H vs Q e oe c ws hc hd hq h; ⟨t, q.h, r⟩
theorem pe_cls {X : Cx} {x : Str} {C : Addr} {pos : Pos} (hg : Gl X x) (hm : X.mg x = some (.ref C)) (hd : (x == ("__debug__" : Str)) = false := by decide) : PE X (.Name x pos) (tC (.ref C)) := pe_glob (v := .ref C) hg hm rfl hd
/-! ## Facts of own classes from what the top has written -/
section
variable {K : PySem.W.Frag} {C D CE : Addr} {oc : Value} {od : Option Addr} {cd : ClassData} {sl : Array (Option Value)} {b : Bool}
end
/-! ## What lies outside a footprint stays -/
theorem keepL {H : Hp} {p l : Addr} {ys : List V} {o : HO} (h : H l = some (.lst ys)) (n : H p = none) : upd H p o l = some (.lst ys) := by rw [upd_ne (ne_of_none h n)]; exact h
theorem Same.lstE {H0 H : Hp} (m : Same H0 H) {o : HO} {p : Addr} (n : H p = none) : Same H0 (upd H p o) ∧ upd H p o p = some o := ⟨m.put (m.free n), upd_same⟩
def Keep (F : Addr → Prop) (H H' : Hp) : Prop := ∀ a o, H a = some o → ¬ F a → H' a = some o
theorem Keep.refl {F : Addr → Prop} {H : Hp} : Keep F H H := fun _ _ e _ => e
theorem Same.keep {F : Addr → Prop} {H H' : Hp} (s : Same H H') : Keep F H H' := fun a o e _ => s a o e
theorem Keep.trans {F G : Addr → Prop} {H H1 H2 : Hp} (a : Keep F H H1) (b : Keep G H1 H2) (h : ∀ x o, H x = some o → G x → F x) : Keep F H H2 := fun x o e n => b x o (a x o e n) fun g => n (h x o e g)
end L2

namespace L2
open PySem PySem.Spec PyProof.Rows
/-! ### small facts -/
theorem at_get {ns : List Int} {k : Int} (h0 : 0 ≤ k) (h : k < (ns.length : Int)) : atI (ns.map V.int) k = some (V.int (ns.getD k.toNat 0)) := by
  have hk : k.toNat < ns.length := by omega
  have e : ((k.toNat : Nat) : Int) = k := by omega
  rw [← e]
  refine atI_nat ?_
  rw [List.getElem?_map, List.getD_eq_getElem?_getD, Int.toNat_natCast, List.getElem?_eq_getElem hk]
  rfl
theorem getD_big {ns : List Int} {k : Int} (h : ¬ k < (ns.length : Int)) : ns.getD k.toNat 0 = 0 := by
  rw [List.getD_eq_getElem?_getD, List.getElem?_eq_none (by omega)]
  rfl
theorem txt_len {x : Str} : x.cps.toList.length = x.length := by simp [Str.length]
theorem sizeBig : 1000 ≤ sizeLine := by decide
theorem big {n : Nat} (h : n ≤ 1000) : n ≤ sizeLine := Nat.le_trans h sizeBig
theorem bigr {n : Nat} (h : Nat.ble n 1000 = true) : n ≤ sizeLine := big (Nat.le_of_ble_eq_true h)
theorem p2 : (0 : Int) < 2 := by decide
theorem p6 : (0 : Int) < 6 := by decide
theorem len_app (x y : Str) : (x ++ y).length = x.length + y.length := by
  have := congrArg List.length (PySem.W.KT.app_list x y)
  rw [List.length_append, txt_len, txt_len, txt_len] at this
  exact this
theorem len_one (c : Nat) : (⟨#[c]⟩ : Str).length = 1 := rfl
theorem dec_ii {a b : Int} : decide (V.int a = V.int b) = decide (a = b) := by
  rw [decide_eq_decide]
  exact ⟨fun h => by injection h, fun h => by rw [h]⟩
theorem range_int {i n : Nat} {lo : Int} {x : V} (h : ((List.range n).map fun i => V.int (lo + ((i : Nat) : Int)))[i]? = some x) : i < n ∧ x = V.int (lo + ((i : Nat) : Int)) := by
  have hi : i < n := by
    have := (List.getElem?_eq_some_iff.mp h).1
    simpa using this
  rw [List.getElem?_map, List.getElem?_range hi] at h
  cases h
  exact ⟨hi, rfl⟩
/-! ### names -/
def small (c : Nat) : Bool := decide (97 ≤ c) && decide (c ≤ 122)
def isName (x : Str) : Bool := (decide (1 ≤ x.length) && decide (x.length ≤ 6)) && x.cps.toList.all small
def abc : Str := Str.ofString "abcdefghijklmnopqrstuvwxyz"
theorem abc_list : abc.cps.toList = (List.range 26).map (97 + ·) := by decide +kernel
theorem abc_len : abc.length = 26 := by decide +kernel
theorem abc_at {k : Int} (h0 : 0 ≤ k) (h : k < 26) : ∃ c, atI abc.cps.toList k = some c ∧ small c = true := by
  have e : ((k.toNat : Nat) : Int) = k := by omega
  refine ⟨97 + k.toNat, ?_, ?_⟩
  · rw [← e]
    refine atI_nat ?_
    rw [abc_list, List.getElem?_map, List.getElem?_range (by omega), Int.toNat_natCast]
    rfl
  · unfold small
    rw [decide_eq_true (by omega : 97 ≤ 97 + k.toNat), decide_eq_true (by omega : 97 + k.toNat ≤ 122)]
    rfl
theorem name_of {x : Str} (h1 : 1 ≤ x.length) (h2 : x.length ≤ 6) (h3 : x.cps.toList.all small = true) : isName x = true := by
  unfold isName
  rw [decide_eq_true h1, decide_eq_true h2, h3]
  rfl
theorem name_one {c : Nat} (h : small c = true) : isName ⟨#[c]⟩ = true := name_of (by rw [len_one]; decide) (by rw [len_one]; decide) (by simp [h])
theorem name_len {x : Str} (h : isName x = true) : 1 ≤ x.length ∧ x.length ≤ 6 := by
  unfold isName at h
  simp only [Bool.and_eq_true, decide_eq_true_eq] at h
  exact h.1
theorem app_list (x y : Str) : (x ++ y).cps.toList = x.cps.toList ++ y.cps.toList := PySem.W.KT.app_list x y
theorem nodup_le {α : Type} [DecidableEq α] : ∀ {l m : List α}, l.Nodup → (∀ x ∈ l, x ∈ m) → l.length ≤ m.length
  | [], _, _, _ => Nat.zero_le _
  | x :: l, m, hn, h => by
    have hx := h x List.mem_cons_self
    have hn := List.nodup_cons.mp hn
    have ih := nodup_le (m := m.erase x) hn.2 fun y hy => (List.mem_erase_of_ne (fun z : y = x => hn.1 (by rw [← z]; exact hy))).mpr (h y (List.mem_cons_of_mem _ hy))
    have e := List.length_erase_of_mem hx
    have := List.length_pos_of_mem hx
    rw [List.length_cons]
    omega
theorem in_strs (x : Str) (us : List Str) : inV (V.str x) (us.map V.str) = decide (x ∈ us) := by
  unfold inV
  rw [List.any_map, Bool.eq_iff_iff, List.any_eq_true, decide_eq_true_eq]
  constructor
  · rintro ⟨y, hy, e⟩
    have e' : (y == x) = true := e
    rw [← eq_of_beq e']; exact hy
  · intro h
    exact ⟨x, h, beq_self_eq_true x⟩
theorem flat_strs (us : List Str) : (us.map V.str).all flatV = true := by
  rw [List.all_map, List.all_eq_true]
  intro x _
  rfl
theorem spare_some (us : List Str) (h : us.length ≤ 25) : ∃ c ∈ abc.cps.toList, (⟨#[c]⟩ : Str) ∉ us := by
  apply Classical.byContradiction
  intro hn
  have hall : ∀ y ∈ abc.cps.toList.map (fun c => (⟨#[c]⟩ : Str)), y ∈ us := fun y hy => by
    obtain ⟨c, hc, rfl⟩ := List.mem_map.mp hy
    exact Classical.byContradiction fun z => hn ⟨c, hc, z⟩
  have nd : (abc.cps.toList.map (fun c => (⟨#[c]⟩ : Str))).Nodup := by
    rw [abc_list, List.map_map]
    decide +kernel
  have := nodup_le nd hall
  rw [List.length_map, txt_len, abc_len] at this
  omega
theorem abc_small {c : Nat} (h : c ∈ abc.cps.toList) : small c = true := by
  rw [abc_list] at h
  obtain ⟨i, hi, rfl⟩ := List.mem_map.mp h
  have := List.mem_range.mp hi
  unfold small
  rw [decide_eq_true (by omega : 97 ≤ 97 + i), decide_eq_true (by omega : 97 + i ≤ 122)]
  rfl
/-! ### numbers that differ -/
theorem dedup_len : ∀ (ns acc : List Int), (ns.foldl step_dedup acc).length ≤ acc.length + ns.length ∧ (acc.Nodup → ((ns.foldl step_dedup acc).length = acc.length + ns.length ↔ (acc ++ ns).Nodup))
  | [], acc => ⟨by simp, fun h => by simp [h]⟩
  | n :: ns, acc => by
    rw [List.foldl_cons]
    by_cases hm : n ∈ acc
    · have e : step_dedup acc n = acc := by
        unfold step_dedup
        rw [if_pos (List.any_eq_true.mpr ⟨n, hm, by simp⟩)]
      rw [e]
      have ih := dedup_len ns acc
      refine ⟨by have := ih.1; rw [List.length_cons]; omega, fun _ => ⟨fun z => ?_, fun z => ?_⟩⟩
      · have := ih.1
        rw [List.length_cons] at z
        omega
      · exact absurd rfl ((List.nodup_append.mp z).2.2 n hm n List.mem_cons_self)
    · have e : step_dedup acc n = acc ++ [n] := by
        unfold step_dedup
        rw [if_neg]
        intro z
        obtain ⟨x, hx, ex⟩ := List.any_eq_true.mp z
        have : x = n := by simpa using ex
        subst this
        exact hm hx
      rw [e]
      have ih := dedup_len ns (acc ++ [n])
      rw [List.length_append, List.length_singleton, List.append_assoc] at ih
      refine ⟨by have := ih.1; rw [List.length_cons]; omega, fun h => ?_⟩
      have hn : (acc ++ [n]).Nodup := by
        refine List.nodup_append.mpr ⟨h, by simp, fun a ha b hb => ?_⟩
        have : b = n := by simpa using hb
        subst this
        intro z
        subst z
        exact hm ha
      have := ih.2 hn
      rw [List.length_cons]
      rw [show acc.length + (ns.length + 1) = acc.length + 1 + ns.length by omega]
      exact this
theorem many_eq (ns : List Int) : many ns = (ns.foldl step_dedup []).length := by
  unfold many firstMet
  congr 2
  apply List.ext_getElem?
  intro i
  rw [List.getElem?_map]
  by_cases h : i < ns.length
  · rw [List.getElem?_range h]
    simp [List.getD_eq_getElem?_getD, h]
  · rw [List.getElem?_eq_none (by simpa using h), List.getElem?_eq_none (by simpa using h)]
    rfl
theorem many_nodup (ns : List Int) : many ns = ns.length ↔ ns.Nodup := by
  rw [many_eq]
  have := (dedup_len ns []).2 List.nodup_nil
  simpa using this
def inR (t : Int) : Bool := decide (0 ≤ t) && decide (t ≤ 7)
def areTeeth (ts : List Int) : Bool := decide (0 ∈ ts) && (decide (many ts = ts.length) && ts.all inR)
theorem in_zero (ts : List Int) : inV (V.int 0) (ts.map V.int) = decide (0 ∈ ts) := by
  unfold inV
  rw [List.any_map, Bool.eq_iff_iff, List.any_eq_true, decide_eq_true_eq]
  constructor
  · rintro ⟨x, hx, e⟩
    have : x = 0 := by
      have e' : (x == 0) = true := e
      exact eq_of_beq e'
    rw [← this]; exact hx
  · intro h
    exact ⟨0, h, rfl⟩
theorem flats (ts : List Int) : (ts.map V.int).all flatV = true := by
  rw [List.all_map, List.all_eq_true]
  intro x _
  rfl
/-! ### drawn combs -/
def KindsL (G : Addr → Prop) (H : Hp) : List V → List (Str × List Int) → Prop
  | [], [] => True
  | v :: vs, k :: ks => (∃ q t, v = .ref q ∧ H q = some (.lst [.str k.1, .ref t]) ∧ H t = some (.lst (k.2.map V.int)) ∧ G q ∧ G t) ∧ KindsL G H vs ks
  | _, _ => False
theorem KindsL.mono {G G' : Addr → Prop} {H H' : Hp} (s : ∀ a o, G a → H a = some o → H' a = some o) (g : ∀ a, G a → G' a) : ∀ {vs : List V} {ks : List (Str × List Int)}, KindsL G H vs ks → KindsL G' H' vs ks
  | [], [], _ => trivial
  | _ :: _, _ :: _, ⟨⟨q, t, e, h1, h2, g1, g2⟩, r⟩ => ⟨⟨q, t, e, s _ _ g1 h1, s _ _ g2 h2, g _ g1, g _ g2⟩, KindsL.mono s g r⟩
  | [], _ :: _, h => h.elim
  | _ :: _, [], h => h.elim
theorem KindsL.same {G : Addr → Prop} {H H' : Hp} {vs : List V} {ks : List (Str × List Int)} (s : Same H H') (h : KindsL G H vs ks) : KindsL G H' vs ks := h.mono (fun a o _ e => s a o e) fun _ g => g
theorem KindsL.upd {G : Addr → Prop} {H : Hp} {p : Addr} {o : HO} {vs : List V} {ks : List (Str × List Int)} (h : KindsL G H vs ks) (n : ¬ G p) : KindsL G (upd H p o) vs ks := h.mono (fun a u g e => by rw [upd_ne (fun z : a = p => n (by rw [← z]; exact g))]; exact e) fun _ g => g
theorem KindsL.snoc {G : Addr → Prop} {H : Hp} {q t : Addr} {k : Str × List Int} (h1 : H q = some (.lst [.str k.1, .ref t])) (h2 : H t = some (.lst (k.2.map V.int))) (g1 : G q) (g2 : G t) : ∀ {vs : List V} {ks : List (Str × List Int)}, KindsL G H vs ks → KindsL G H (vs ++ [.ref q]) (ks ++ [k])
  | [], [], _ => ⟨⟨q, t, rfl, h1, h2, g1, g2⟩, trivial⟩
  | _ :: _, _ :: _, ⟨a, b⟩ => ⟨a, KindsL.snoc h1 h2 g1 g2 b⟩
  | [], _ :: _, x => x.elim
  | _ :: _, [], x => x.elim
theorem KindsL.length {G : Addr → Prop} {H : Hp} : ∀ {vs : List V} {ks : List (Str × List Int)}, KindsL G H vs ks → vs.length = ks.length
  | [], [], _ => rfl
  | _ :: _, _ :: _, ⟨_, b⟩ => by rw [List.length_cons, List.length_cons, KindsL.length b]
  | [], _ :: _, x => x.elim
  | _ :: _, [], x => x.elim
theorem KindsL.get {G : Addr → Prop} {H : Hp} : ∀ {vs : List V} {ks : List (Str × List Int)} {i : Nat} {v : V}, KindsL G H vs ks → vs[i]? = some v → ∃ k q t, ks[i]? = some k ∧ v = .ref q ∧ H q = some (.lst [.str k.1, .ref t]) ∧ H t = some (.lst (k.2.map V.int))
  | [], [], _, _, _, e => by simp at e
  | _ :: _, k :: _, 0, _, ⟨⟨q, t, e, h1, h2, _⟩, _⟩, z => by
    simp at z
    subst z
    exact ⟨k, q, t, rfl, e, h1, h2⟩
  | _ :: _, _ :: _, i + 1, _, ⟨_, b⟩, z => by
    obtain ⟨k, q, t, h⟩ := KindsL.get (i := i) b (by simpa using z)
    exact ⟨k, q, t, by simpa using h⟩
  | [], _ :: _, _, _, x, _ => x.elim
  | _ :: _, [], _, _, x, _ => x.elim
/-- rising teeth from 0 to 7, 0 among them -/
def GT (ts : List Int) : Prop := ∃ f : Nat → Bool, ts = ((List.range 8).filter f).map (fun i => ((i : Nat) : Int)) ∧ f 0 = true
structure Drawn (G : Addr → Prop) (H : Hp) (vs : List V) (ks : List (Str × List Int)) : Prop where
  rows : KindsL G H vs ks
  nd : (ks.map (·.1)).Nodup
  good : ∀ k ∈ ks, isName k.1 = true ∧ GT k.2
theorem Drawn.same {G : Addr → Prop} {H H' : Hp} {vs : List V} {ks : List (Str × List Int)} (d : Drawn G H vs ks) (s : Same H H') : Drawn G H' vs ks := ⟨d.rows.same s, d.nd, d.good⟩
theorem Drawn.upd {G : Addr → Prop} {H : Hp} {p : Addr} {o : HO} {vs : List V} {ks : List (Str × List Int)} (d : Drawn G H vs ks) (n : ¬ G p) : Drawn G (upd H p o) vs ks := ⟨d.rows.upd n, d.nd, d.good⟩
theorem Drawn.any {G : Addr → Prop} {H : Hp} {vs : List V} {ks : List (Str × List Int)} (d : Drawn G H vs ks) : Drawn (fun _ => True) H vs ks := ⟨d.rows.mono (fun _ _ _ e => e) fun _ _ => trivial, d.nd, d.good⟩
theorem Drawn.snoc {G : Addr → Prop} {H : Hp} {vs : List V} {ks : List (Str × List Int)} {q t : Addr} {k : Str × List Int} (d : Drawn G H vs ks) (h1 : H q = some (.lst [.str k.1, .ref t])) (h2 : H t = some (.lst (k.2.map V.int))) (g1 : G q) (g2 : G t) (hn : k.1 ∉ ks.map (·.1)) (hk : isName k.1 = true ∧ GT k.2) : Drawn G H (vs ++ [.ref q]) (ks ++ [k]) := by
  refine ⟨KindsL.snoc h1 h2 g1 g2 d.rows, ?_, fun x hx => ?_⟩
  · rw [List.map_append]
    refine List.nodup_append.mpr ⟨d.nd, by simp, fun a ha b hb => ?_⟩
    have e : b = k.1 := by simpa using hb
    rw [e]
    exact fun z => hn (z ▸ ha)
  · rcases List.mem_append.mp hx with z | z
    · exact d.good x z
    · rw [List.mem_singleton.mp z]; exact hk
end L2

namespace L2
open PySem PySem.Spec PyProof.Rows

/-! ## Combs as data -/
abbrev Combs := List (Str × List Int)
def cGet (cs : Combs) (x : Str) : Option (List Int) := (cs.find? fun c => decide (c.1 = x)).map (·.2)
def cPut (cs : Combs) (x : Str) (ts : List Int) : Combs := if (cs.any fun c => decide (c.1 = x)) = true then cs.map (fun c => if c.1 = x then (c.1, ts) else c) else cs ++ [(x, ts)]
/-- a list of teeth, rising -/
def canon (ts : List Int) : List Int := ((List.range 8).filter fun i => decide (((i : Nat) : Int) ∈ ts)).map fun i => ((i : Nat) : Int)
theorem map_lt (f : Nat → Bool) : (((List.range 8).filter f).map fun i => ((i : Nat) : Int)).Pairwise (· < ·) := by
  rw [List.pairwise_map]
  refine List.Pairwise.sublist List.filter_sublist ?_
  refine List.Pairwise.imp ?_ (List.pairwise_lt_range (n := 8))
  intro a b h
  omega
theorem canon_lt (ts : List Int) : (canon ts).Pairwise (· < ·) := map_lt _
theorem mem_canon {ts : List Int} {t : Int} : t ∈ canon ts ↔ t ∈ ts ∧ 0 ≤ t ∧ t ≤ 7 := by
  unfold canon
  simp only [List.mem_map, List.mem_filter, List.mem_range, decide_eq_true_eq]
  constructor
  · rintro ⟨i, ⟨hi, hm⟩, rfl⟩
    exact ⟨hm, by omega, by omega⟩
  · rintro ⟨hm, h0, h7⟩
    refine ⟨t.toNat, ⟨by omega, ?_⟩, by omega⟩
    rwa [show ((t.toNat : Nat) : Int) = t by omega]
theorem nodup_lt {l : List Int} (h : l.Pairwise (· < ·)) : l.Nodup := h.imp fun h => by omega
theorem canon_nodup (ts : List Int) : (canon ts).Nodup := nodup_lt (canon_lt ts)
theorem same_sorted {a b : List Int} (hp : a.Perm b) (ha : a.Pairwise (· ≤ ·)) (hb : b.Pairwise (· ≤ ·)) : a = b :=
  hp.eq_of_pairwise (fun x y _ _ h1 h2 => Int.le_antisymm h1 h2) ha hb
theorem canon_of {ns ts : List Int} (hp : ns.Perm ts) (hs : ns.Pairwise (· ≤ ·)) (hn : ts.Nodup) (hr : ∀ t ∈ ts, 0 ≤ t ∧ t ≤ 7) : ns = canon ts := by
  refine same_sorted (hp.trans ?_) hs ((canon_lt ts).imp fun h => by omega)
  rw [List.perm_ext_iff_of_nodup hn (canon_nodup ts)]
  intro t
  rw [mem_canon]
  exact ⟨fun h => ⟨h, hr t h⟩, fun h => h.1⟩
theorem gt_lt {ts : List Int} (h : GT ts) : ts.Pairwise (· < ·) := by
  obtain ⟨f, rfl, _⟩ := h
  exact map_lt f
theorem gt_in {ts : List Int} (h : GT ts) : ∀ t ∈ ts, 0 ≤ t ∧ t ≤ 7 := by
  obtain ⟨f, rfl, _⟩ := h
  intro t ht
  obtain ⟨i, hi, rfl⟩ := List.mem_map.mp ht
  have := List.mem_range.mp (List.mem_filter.mp hi).1
  omega
theorem gt_zero {ts : List Int} (h : GT ts) : (0 : Int) ∈ ts := by
  obtain ⟨f, rfl, h0⟩ := h
  exact List.mem_map.mpr ⟨0, List.mem_filter.mpr ⟨by decide, h0⟩, rfl⟩
theorem gt_canon {ts : List Int} (h0 : (0 : Int) ∈ ts) : GT (canon ts) := ⟨_, rfl, decide_eq_true h0⟩
theorem gt_eq {ts : List Int} (h : GT ts) : canon ts = ts := by
  symm
  refine canon_of (List.Perm.refl _) ((gt_lt h).imp fun h => by omega) (nodup_lt (gt_lt h)) (gt_in h)
theorem gt_len {ts : List Int} (h : GT ts) : ts.length ≤ 8 := by
  obtain ⟨f, rfl, _⟩ := h
  rw [List.length_map]
  exact Nat.le_trans (List.length_filter_le _ _) (by simp)
theorem canon_len (ts : List Int) : (canon ts).length ≤ 8 := by
  unfold canon
  rw [List.length_map]
  exact Nat.le_trans (List.length_filter_le _ _) (by simp)
theorem inR_iff {t : Int} : inR t = true ↔ 0 ≤ t ∧ t ≤ 7 := by unfold inR; simp
theorem teeth_iff {ts : List Int} : areTeeth ts = true ↔ (0 : Int) ∈ ts ∧ ts.Nodup ∧ ∀ t ∈ ts, 0 ≤ t ∧ t ≤ 7 := by
  unfold areTeeth
  simp only [Bool.and_eq_true, decide_eq_true_eq, many_nodup, List.all_eq_true, inR_iff]
theorem teeth_len {ts : List Int} (hn : ts.Nodup) (hr : ∀ t ∈ ts, 0 ≤ t ∧ t ≤ 7) : ts.length ≤ 8 := by
  have : ts.length ≤ (canon ts).length := nodup_le hn fun x hx => mem_canon.mpr ⟨hx, hr x hx⟩
  have := canon_len ts
  omega
theorem gt_teeth {ts : List Int} (h : GT ts) : areTeeth ts = true := teeth_iff.mpr ⟨gt_zero h, nodup_lt (gt_lt h), gt_in h⟩
/-- what a book holds -/
structure Good (cs : Combs) : Prop where
  len : cs.length ≤ 8
  nd : (cs.map (·.1)).Nodup
  ok : ∀ c ∈ cs, isName c.1 = true ∧ GT c.2
theorem good_nil : Good [] := ⟨by decide, List.nodup_nil, by simp⟩
theorem get_mem {cs : Combs} {x : Str} {ts : List Int} (h : cGet cs x = some ts) : (x, ts) ∈ cs := by
  unfold cGet at h
  obtain ⟨c, hc, rfl⟩ := Option.map_eq_some_iff.mp h
  have h1 := List.mem_of_find?_eq_some hc
  have h2 : c.1 = x := by simpa using List.find?_some hc
  rw [← h2]
  exact h1
theorem get_none {cs : Combs} {x : Str} : cGet cs x = none ↔ x ∉ cs.map (·.1) := by
  unfold cGet
  rw [Option.map_eq_none_iff, List.find?_eq_none]
  simp only [decide_eq_true_eq, List.mem_map, not_exists, not_and]
theorem any_get {cs : Combs} {x : Str} : (cs.any fun c => decide (c.1 = x)) = (cGet cs x).isSome := by
  rw [Bool.eq_iff_iff, List.any_eq_true, Option.isSome_iff_ne_none, ne_eq, get_none, Classical.not_not, List.mem_map]
  simp
theorem get_cons {c : Str × List Int} {cs : Combs} {x : Str} : cGet (c :: cs) x = if c.1 = x then some c.2 else cGet cs x := by
  unfold cGet
  rw [List.find?_cons]
  by_cases h : c.1 = x
  · simp [h]
  · simp [h]
theorem put_new {cs : Combs} {x : Str} {ts : List Int} (h : cGet cs x = none) : cPut cs x ts = cs ++ [(x, ts)] := by
  unfold cPut
  rw [any_get, h]
  rfl
theorem put_old {cs : Combs} {x : Str} {ts us : List Int} (h : cGet cs x = some us) : cPut cs x ts = cs.map (fun c => if c.1 = x then (c.1, ts) else c) := by
  unfold cPut
  rw [any_get, h]
  rfl
theorem put_keys {cs : Combs} {x : Str} {ts us : List Int} (h : cGet cs x = some us) : (cPut cs x ts).map (·.1) = cs.map (·.1) := by
  rw [put_old h, List.map_map]
  apply List.map_congr_left
  intro c _
  show (if c.1 = x then (c.1, ts) else c).1 = c.1
  split <;> rfl
theorem Good.put {cs : Combs} {x : Str} {ts : List Int} (g : Good cs) (hx : isName x = true) (ht : GT ts) (hl : cs.length < 8 ∨ (cGet cs x).isSome = true) : Good (cPut cs x ts) := by
  cases e : cGet cs x with
  | none =>
    rw [put_new e]
    refine ⟨?_, ?_, ?_⟩
    · rw [e] at hl
      rw [List.length_append, List.length_singleton]
      rcases hl with h | h
      · omega
      · cases h
    · rw [List.map_append]
      exact nd_snoc g.nd (get_none.mp e)
    · intro c hc
      rcases List.mem_append.mp hc with h | h
      · exact g.ok c h
      · rw [List.mem_singleton.mp h]; exact ⟨hx, ht⟩
  | some us =>
    refine ⟨?_, by rw [put_keys e]; exact g.nd, ?_⟩
    · rw [put_old e, List.length_map]; exact g.len
    · rw [put_old e]
      intro c hc
      obtain ⟨c0, h0, rfl⟩ := List.mem_map.mp hc
      split
      · exact ⟨(g.ok c0 h0).1, ht⟩
      · exact g.ok c0 h0
/-! ## A book on the heap -/
def KvR (G : Addr → Prop) (H : Hp) : List (Key × V) → Combs → Prop := Paired fun kv c => ∃ t, kv = (Sum.inr c.1, V.ref t) ∧ H t = some (.lst (c.2.map V.int)) ∧ G t
def DictR (G : Addr → Prop) (H : Hp) (d : Addr) (cs : Combs) : Prop := G d ∧ ∃ kvs, H d = some (.dK kvs) ∧ KvR G H kvs cs
theorem KvR.mono {G G' : Addr → Prop} {H H' : Hp} {kvs : List (Key × V)} {cs : Combs} (s : ∀ a o, G a → H a = some o → H' a = some o) (g : ∀ a, G a → G' a) (h : KvR G H kvs cs) : KvR G' H' kvs cs :=
  Paired.mono (fun _ _ ⟨t, e, h1, g1⟩ => ⟨t, e, s _ _ g1 h1, g _ g1⟩) h
theorem DictR.mono {G G' : Addr → Prop} {H H' : Hp} {d : Addr} {cs : Combs} (s : ∀ a o, G a → H a = some o → H' a = some o) (g : ∀ a, G a → G' a) (h : DictR G H d cs) : DictR G' H' d cs :=
  let ⟨g0, kvs, e, r⟩ := h
  ⟨g _ g0, kvs, s _ _ g0 e, r.mono s g⟩
theorem KvR.keys {G : Addr → Prop} {H : Hp} : ∀ {kvs : List (Key × V)} {cs : Combs}, KvR G H kvs cs → kvs.map (·.1) = (cs.map (·.1)).map Sum.inr
  | _, _, .nil => rfl
  | _, _, .cons ⟨t, e, _⟩ r => by
    subst e
    show _ :: _ = _ :: _
    rw [show List.map _ _ = _ from KvR.keys r]
theorem KvR.val {G : Addr → Prop} {H : Hp} {x : Str} : ∀ {kvs : List (Key × V)} {cs : Combs}, KvR G H kvs cs →
    (cGet cs x = none ∧ valV kvs (Sum.inr x) = none) ∨ ∃ ts t, cGet cs x = some ts ∧ valV kvs (Sum.inr x) = some (.ref t) ∧ H t = some (.lst (ts.map V.int)) ∧ G t
  | _, _, .nil => .inl ⟨rfl, rfl⟩
  | _, _, .cons (b := c) ⟨t, e, h1, g1⟩ r => by
    subst e
    by_cases h : c.1 = x
    · refine .inr ⟨c.2, t, by rw [get_cons, if_pos h], valV_pos (by rw [h]), h1, g1⟩
    · have hn : ¬ ((Sum.inr c.1 : Key) = Sum.inr x) := fun z => h (Sum.inr.inj z)
      rcases KvR.val (x := x) r with ⟨e1, e2⟩ | ⟨ts, t', e1, e2, e3⟩
      · exact .inl ⟨by rw [get_cons, if_neg h]; exact e1, by rw [valV_neg hn]; exact e2⟩
      · exact .inr ⟨ts, t', by rw [get_cons, if_neg h]; exact e1, by rw [valV_neg hn]; exact e2, e3⟩
theorem KvR.some {G : Addr → Prop} {H : Hp} {kvs : List (Key × V)} {cs : Combs} {x : Str} (r : KvR G H kvs cs) : (valV kvs (Sum.inr x)).isSome = (cGet cs x).isSome := by
  rcases r.val (x := x) with ⟨e1, e2⟩ | ⟨ts, t', e1, e2, e3⟩
  · rw [e1, e2]; rfl
  · rw [e1, e2]; rfl
theorem KvR.map {G : Addr → Prop} {H : Hp} {x : Str} {t : Addr} {ts : List Int} (h1 : H t = .some (.lst (ts.map V.int))) (g1 : G t) : ∀ {kvs : List (Key × V)} {cs : Combs}, KvR G H kvs cs →
    KvR G H (kvs.map fun kv => if kv.1 = Sum.inr x then (kv.1, V.ref t) else kv) (cs.map fun c => if c.1 = x then (c.1, ts) else c)
  | _, _, .nil => .nil
  | _, _, .cons (b := c) ⟨t', e, h2, g2⟩ r => by
    subst e
    refine .cons ?_ (KvR.map h1 g1 r)
    dsimp only
    by_cases hx : c.1 = x
    · rw [if_pos hx, if_pos (by rw [hx])]
      exact ⟨t, rfl, h1, g1⟩
    · rw [if_neg hx, if_neg (fun z => hx (Sum.inr.inj z))]
      exact ⟨t', rfl, h2, g2⟩
theorem KvR.put {G : Addr → Prop} {H : Hp} {kvs : List (Key × V)} {cs : Combs} {x : Str} {t : Addr} {ts : List Int} (r : KvR G H kvs cs) (h1 : H t = .some (.lst (ts.map V.int))) (g1 : G t) : KvR G H (putK kvs (Sum.inr x) (.ref t)) (cPut cs x ts) := by
  unfold putK cPut
  rw [valV_any, any_get, r.some]
  split
  · exact r.map h1 g1
  · exact Paired.snoc r ⟨t, rfl, h1, g1⟩
abbrev PastR (G : Addr → Prop) (H : Hp) : List V → List Combs → Prop := Paired fun v cs => ∃ d, v = .ref d ∧ DictR G H d cs
/-- b: the book, l: its list of what was; G: the dicts and the lists of teeth, which no deed changes -/
structure Bk (C : Addr) (G : Addr → Prop) (H : Hp) (b l : Addr) (cs : Combs) (past : List Combs) : Prop where
  live : ∀ x, G x → H x ≠ none
  nb : ¬ G b
  nl : ¬ G l
  ins : ∃ dx d, H b = some (.ins C dx [("combs", .ref d), ("past", .ref l)]) ∧ DictR G H d cs
  lst : ∃ vs, H l = some (.lst vs) ∧ PastR G H vs past
  good : Good cs
  goods : ∀ p ∈ past, Good p
  few : past.length ≤ 300
theorem Bk.move {C : Addr} {G : Addr → Prop} {H H' : Hp} {b l : Addr} {cs : Combs} {past : List Combs} (B : Bk C G H b l cs past) (s : ∀ a o, G a ∨ a = b ∨ a = l → H a = some o → H' a = some o) : Bk C G H' b l cs past := by
  have s' : ∀ a o, G a → H a = some o → H' a = some o := fun a o g e => s a o (.inl g) e
  obtain ⟨dx, d, e1, r1⟩ := B.ins
  obtain ⟨vs, e2, r2⟩ := B.lst
  refine ⟨fun x g => ?_, B.nb, B.nl, ⟨dx, d, s _ _ (.inr (.inl rfl)) e1, r1.mono s' fun _ g => g⟩, ⟨vs, s _ _ (.inr (.inr rfl)) e2, ?_⟩, B.good, B.goods, B.few⟩
  · have := B.live x g
    cases e : H x with
    | none => exact absurd e this
    | some o => rw [s' x o g e]; simp
  · exact Paired.mono (fun _ _ ⟨d, e, r⟩ => ⟨d, e, r.mono s' fun _ g => g⟩) r2
theorem Bk.same {C : Addr} {G : Addr → Prop} {H H' : Hp} {b l : Addr} {cs : Combs} {past : List Combs} (B : Bk C G H b l cs past) (s : Same H H') : Bk C G H' b l cs past := B.move fun a o _ e => s a o e
theorem Bk.upd {C : Addr} {G : Addr → Prop} {H : Hp} {b l z : Addr} {o : HO} {cs : Combs} {past : List Combs} (B : Bk C G H b l cs past) (n1 : ¬ G z) (n2 : z ≠ b) (n3 : z ≠ l) : Bk C G (upd H z o) b l cs past :=
  B.move fun a o' g e => by
    rw [upd_ne]
    · exact e
    · intro q
      subst q
      rcases g with g | g | g
      · exact n1 g
      · exact n2 g
      · exact n3 g
theorem Bk.liveB {C : Addr} {G : Addr → Prop} {H : Hp} {b l : Addr} {cs : Combs} {past : List Combs} (B : Bk C G H b l cs past) : H b ≠ none ∧ H l ≠ none := by
  obtain ⟨dx, d, e1, r1⟩ := B.ins
  obtain ⟨vs, e2, r2⟩ := B.lst
  exact ⟨by rw [e1]; simp, by rw [e2]; simp⟩
/-- a deed's move -/
structure Mv (b l : Addr) (G G' : Addr → Prop) (H H' : Hp) : Prop where
  keep : ∀ a o, H a = some o → a ≠ b → a ≠ l → H' a = some o
  on : ∀ a, H a ≠ none → H' a ≠ none
  new : ∀ a, G' a → G a ∨ H a = none
theorem live_same {H H' : Hp} (s : Same H H') : ∀ a, H a ≠ none → H' a ≠ none := fun a h => by
  cases e : H a with
  | none => exact absurd e h
  | some o => rw [s a o e]; simp
theorem Mv.ofSame {b l : Addr} {G : Addr → Prop} {H H' : Hp} (s : Same H H') : Mv b l G G H H' := ⟨fun a o e _ _ => s a o e, live_same s, fun _ g => .inl g⟩
theorem Mv.trans {b l : Addr} {G G1 G2 : Addr → Prop} {H H1 H2 : Hp} (m : Mv b l G G1 H H1) (m' : Mv b l G1 G2 H1 H2) : Mv b l G G2 H H2 := by
  refine ⟨fun a o e n1 n2 => m'.keep a o (m.keep a o e n1 n2) n1 n2, fun a h => m'.on a (m.on a h), fun a g => ?_⟩
  rcases m'.new a g with g1 | e
  · exact m.new a g1
  · refine .inr ?_
    cases q : H a with
    | none => rfl
    | some o => exact absurd e (m.on a (by rw [q]; simp))
/-- what a deed promises, by what is reckoned: the number of the refusal, or the new combs -/
def Deed (ea : Nat → Addr) (C : Addr) (G : Addr → Prop) (H : Hp) (b l : Addr) (cs : Combs) (past : List Combs) (Q : VK) (E : XK) : Except Nat Combs → Prop
  | .error j => ∀ H', Same H H' → E (.ref (ea j)) none H'
  | .ok cs' => ∀ H' G', Mv b l G G' H H' → Bk C G' H' b l cs' (past ++ [cs]) → Q (.int ((past.length : Int) + 1)) H'
theorem Deed.from {ea : Nat → Addr} {C : Addr} {G : Addr → Prop} {H H1 : Hp} {b l : Addr} {cs : Combs} {past : List Combs} {Q : VK} {E : XK} {r : Except Nat Combs} (d : Deed ea C G H b l cs past Q E r) (s : Same H H1) : Deed ea C G H1 b l cs past Q E r := by
  cases r with
  | error j => exact fun H' s' => d H' (s.trans s')
  | ok cs' => exact fun H' G' m B => d H' G' ((Mv.ofSame s).trans m) B
def full (past : List Combs) (cs' : Combs) : Except Nat Combs := if 300 ≤ past.length then .error 9 else .ok cs'
def putD (cs : Combs) (past : List Combs) (x : Str) (ts : List Int) : Except Nat Combs :=
  if isName x = false then .error 0 else if areTeeth ts = false then .error 1 else if (cGet cs x).isSome = true then .error 2 else if 8 ≤ cs.length then .error 3 else full past (cPut cs x (canon ts))
/-! ## dict(d) -/
theorem call_dictD {X : Cx} : CallR X (.type "dict") (fun xs H Q => ∃ a kvs, xs = [V.ref a] ∧ Rd H a (.dK kvs) ∧ ∀ p, H p = none → Q (.ref p) (upd H p (.dK kvs))) := by
  intro pins s σ H xs us Q I r h
  obtain ⟨a, kvs, rfl, ha, q⟩ := h
  obtain ⟨u, rfl, ru⟩ := vals1 r
  cases ru
  exact d_copyOf I ha fun p s' np I' => ⟨.ref p, _, I', rfl, q p np⟩
end L2

namespace L2
open PySem PySem.Spec PyProof.Rows

theorem Method.mono {P : Program} {w : World} {K : PySem.W.Frag} {mg : Str → Option Value} {base : Heap} {C : Addr} {m : Str} {CX : CXT} {j k : Nat} {ps : List Str} {sp : Sp} (M : Method P w K mg base C m CX j ps sp) (h : j ≤ k) : Method P w K mg base C m CX k ps sp :=
  let ⟨f, fd, F, a, b⟩ := M.ex
  ⟨f, fd, F.mono h, a, b⟩
theorem Callee.mono {P : Program} {w : World} {K : PySem.W.Frag} {mg : Str → Option Value} {base : Heap} {x : Str} {j k : Nat} {ps : List Str} {sp : Sp} (M : Callee P w K mg base x j ps sp) (h : j ≤ k) : Callee P w K mg base x k ps sp :=
  let ⟨f, fd, F, a, b⟩ := M.ex
  ⟨f, fd, F.mono h, a, b⟩
/-! ## Texts in their order -/
def sle (a b : Str) : Prop := a.cps.toList ≤ b.cps.toList
theorem sle_iff {a b : Str} : sle a b ↔ ltCps b.cps.toList a.cps.toList = false := by
  unfold sle
  rw [ltCps_eq, decide_eq_false_iff_not, List.not_lt]
theorem sle_trans {a b c : Str} (h1 : sle a b) (h2 : sle b c) : sle a c := List.le_trans h1 h2
theorem sle_antisymm {a b : Str} (h1 : sle a b) (h2 : sle b a) : a = b := by
  have := List.le_antisymm h1 h2
  cases a; cases b
  simp only at this
  rw [Str.mk.injEq, ← Array.toList_inj]
  exact this
theorem rising_sle : ∀ {l : List Str} {p : Str}, risingS p l = true → (p :: l).Pairwise sle
  | [], p, _ => by simp
  | x :: r, p, h => by
    simp only [risingS, Bool.and_eq_true, Bool.not_eq_true'] at h
    have ih := rising_sle h.2
    have hpx : sle p x := sle_iff.mpr h.1
    refine List.pairwise_cons.mpr ⟨fun y hy => ?_, ih⟩
    rcases List.mem_cons.mp hy with rfl | hm
    · exact hpx
    · exact sle_trans hpx ((List.pairwise_cons.mp ih).1 y hm)
theorem sorted_sle {l : List Str} (h : sortedS l = true) : l.Pairwise sle := by
  cases l with
  | nil => exact List.Pairwise.nil
  | cons x r => exact rising_sle h
theorem strs_same {a b : List Str} (hp : a.Perm b) (ha : sortedS a = true) (hb : sortedS b = true) : a = b :=
  hp.eq_of_pairwise (fun _ _ _ _ h1 h2 => sle_antisymm h1 h2) (sorted_sle ha) (sorted_sle hb)
/-! ## The combs that a law keeps in a dict; L: where its lists lie -/
def Kept (L : Addr → Prop) (H : Hp) (a : Addr) (cs : Combs) : Prop := ∃ kvs, H a = some (.dK kvs) ∧ KvR L H kvs cs
theorem Kept.same {L : Addr → Prop} {H H' : Hp} {a : Addr} {cs : Combs} (k : Kept L H a cs) (s : Same H H') : Kept L H' a cs :=
  let ⟨kvs, e, r⟩ := k
  ⟨kvs, s _ _ e, r.mono (fun a o _ e => s a o e) fun _ g => g⟩
theorem Kept.any {L : Addr → Prop} {H : Hp} {a : Addr} {cs : Combs} (k : Kept L H a cs) : Kept (fun _ => True) H a cs :=
  let ⟨kvs, e, r⟩ := k
  ⟨kvs, e, r.mono (fun a o _ e => e) fun _ _ => trivial⟩
theorem KvR.lists {G : Addr → Prop} {H : Hp} {kvs : List (Key × V)} {cs : Combs} (r : KvR G H kvs cs) : KvR (fun t => G t ∧ ∃ xs, H t = Option.some (.lst xs)) H kvs cs :=
  Paired.mono (fun _ _ ⟨t, e, h1, g1⟩ => ⟨t, e, h1, g1, _, h1⟩) r
/-- the dict alone is another one -/
theorem KvR.updD {G : Addr → Prop} {H : Hp} {a : Addr} {kvs0 kvs : List (Key × V)} {o : HO} {cs : Combs} (r : KvR G H kvs cs) (ha : H a = Option.some (.dK kvs0)) : KvR G (upd H a o) kvs cs :=
  Paired.mono (fun _ _ ⟨t, e, h1, g1⟩ => ⟨t, e, by rw [upd_ne (ne_of h1 ha (by intro z; cases z))]; exact h1, g1⟩) r
theorem Kept.put {L : Addr → Prop} {H : Hp} {a t : Addr} {cs : Combs} {x : Str} {ts : List Int} (k : Kept L H a cs) (ht : H t = some (.lst (ts.map V.int))) (hL : L t) : ∃ kvs, H a = some (.dK kvs) ∧ kvs.length = cs.length ∧ Kept L (upd H a (.dK (putK kvs (Sum.inr x) (.ref t)))) a (cPut cs x ts) := by
  obtain ⟨kvs, e, r⟩ := k
  exact ⟨kvs, e, r.length, _, upd_same, (r.put ht hL).updD e⟩
theorem Bk.ne {C b l a : Addr} {G : Addr → Prop} {H : Hp} {cs : Combs} {past : List Combs} {kvs : List (Key × V)} (B : Bk C G H b l cs past) (e : H a = some (.dK kvs)) : a ≠ b ∧ a ≠ l := by
  obtain ⟨dx, d, hb, _⟩ := B.ins
  obtain ⟨vs, hl, _⟩ := B.lst
  exact ⟨ne_of e hb (by intro z; cases z), ne_of e hl (by intro z; cases z)⟩
theorem Mv.not {b l a : Addr} {G G' : Addr → Prop} {H H' : Hp} {o : HO} (m : Mv b l G G' H H') (e : H a = some o) (n : ¬ G a) : ¬ G' a := fun g => by
  rcases m.new a g with g | g
  · exact n g
  · rw [e] at g; cases g
/-! ## Drawn combs as data -/
end L2

namespace L2
open PySem PySem.Spec PyProof.Rows

/-! ## Facts of the text's own classes, looked at once -/
def errNames : List Str := [Str.ofString "BadName", Str.ofString "BadTeeth", Str.ofString "NameTaken", Str.ofString "BookFull", Str.ofString "NoComb", Str.ofString "BadTooth", Str.ofString "ToothThere", Str.ofString "FirstTooth", Str.ofString "ToothMissing", Str.ofString "DeedsFull", Str.ofString "NothingDone", Str.ofString "BadShape", Str.ofString "BadPlace", Str.ofString "BadLength", Str.ofString "NoFilling"]
def errName (j : Nat) : Str := errNames.getD j (Str.ofString "")
def valErr : List Value := [.type "ValueError", .type "Exception", .type "BaseException", .type "object"]
def clsChk (K : PySem.W.Frag) (C : Addr) : Bool := (PySem.W.clsIn K C).isSome && PySem.W.typeIn K (.ref C) == some (.type "type")
def errChk1 (K : PySem.W.Frag) (l : List Addr) (ce : Addr) (D : Addr) (j : Nat) : Bool :=
  (List.range 15).all (fun i => PySem.W.mroIn K D (.ref (l.getD i 0)) == some (i == j)) && (PySem.W.mroIn K D (.ref ce) == some true &&
  (PySem.W.findIn K (.ref D) "__getattribute__" == some (some (.builtin "BaseException.__getattribute__")) && (PySem.W.findIn K (.ref D) "__getattr__" == some none &&
  (PySem.W.findIn K (.ref D) "__class__" == some (some (.builtin "object.__class__")) && (PySem.W.mroIn K D (.type "object") == some true && (PySem.W.mroIn K D (.type "BaseException") == some true && PySem.W.excIn K D valErr "ValueError.__new__"))))))
def errChk (K : PySem.W.Frag) (l : List Addr) (ce : Addr) (js : List Nat) : Bool :=
  (List.range 15).all (fun i => clsChk K (l.getD i 0)) && (clsChk K ce && (PySem.W.mroIn K ce (.type "BaseException") == some true &&
  (PySem.W.specialIn K (.builtin "object.__class__") "__get__" == some (some (.builtin "getset_descriptor.__get__")) && (PySem.W.takesIn K (.builtin "object.__class__") == some true && js.all fun j => errChk1 K l ce (l.getD j 0) j))))
structure KindF (K : PySem.W.Frag) (ea : Nat → Addr) (D : Addr) (j : Nat) : Prop where
  lt : j < 15
  cls : ErrCls K D
  kit : ∀ i, i < 15 → PySem.W.kitOne K (.ref D) (.ref (ea i)) = some (decide (i = j))
/-- a refusal that the law's handler tells -/
structure EJ (K : PySem.W.Frag) (ea : Nat → Addr) (ce : Value) (j : Nat) : Prop where
  kf : KindF K ea (ea j) j
  ex : PySem.W.exmOne K (.ref (ea j)) ce = some true
  exc : PySem.W.excIn K (ea j) valErr "ValueError.__new__" = true
theorem kitCls_of {K : PySem.W.Frag} {D C : Addr} {b : Bool} (h : clsChk K C = true) (m : PySem.W.mroIn K D (.ref C) = some b) : PySem.W.kitCls K (.ref D) (.ref C) = some b := by
  unfold clsChk at h
  simp only [Bool.and_eq_true, beq_iff_eq] at h
  unfold PySem.W.kitCls
  simp only [h.1, h.2]
  rw [if_pos (by decide)]
  exact m
theorem ej_of {K : PySem.W.Frag} {l : List Addr} {ce : Addr} {js : List Nat} {j : Nat} (h : errChk K l ce js = true) (hj : j ∈ js) (hlt : j < 15) : EJ K (fun i => l.getD i 0) (.ref ce) j := by
  unfold errChk at h
  simp only [Bool.and_eq_true, beq_iff_eq, List.all_eq_true, List.mem_range] at h
  obtain ⟨h1, h2, h3, h4, h5, h6⟩ := h
  have h7 := h6 j hj
  unfold errChk1 at h7
  simp only [Bool.and_eq_true, beq_iff_eq, List.all_eq_true, List.mem_range] at h7
  obtain ⟨g1, g2, g3, g4, g5, g6, g7, g8⟩ := h7
  have hc : (PySem.W.clsIn K (l.getD j 0)).isSome = true := by
    have := h1 j hlt
    unfold clsChk at this
    simp only [Bool.and_eq_true] at this
    exact this.1
  refine ⟨⟨hlt, ⟨g3, g4, hc, g5, h4, h5, g6, g7⟩, fun i hi => ?_⟩, ?_, g8⟩
  · have m := g1 i hi
    unfold PySem.W.kitOne
    by_cases e : i = j
    · subst e
      rw [if_pos (beq_self_eq_true _), decide_eq_true rfl]
    · have ne : l.getD j 0 ≠ l.getD i 0 := fun z => by
        have m2 := g1 j hlt
        rw [← z] at m
        rw [m] at m2
        simp [e] at m2
      rw [if_neg (fun z => ne (Value.ref.inj (beq_iff_eq.mp z))), decide_eq_false e]
      have e2 : (i == j) = false := beq_eq_false_iff_ne.mpr e
      rw [e2] at m
      exact kitCls_of (h1 i hi) m
  · unfold PySem.W.exmOne
    rw [if_pos (by rw [show PySem.W.subIn K (.ref ce) (.type "BaseException") = some true from h3]; rfl)]
    exact kitCls_of h2 g2
theorem EJ.err {K : PySem.W.Frag} {mg : Str → Option Value} {ea : Nat → Addr} {ce : Value} {j : Nat} {x : Str} (e : EJ K ea ce j) (hm : mg x = some (.ref (ea j))) : Err K mg x (ea j) := ⟨hm, e.exc⟩
/-! ## The book's class -/
structure BookAt (K : PySem.W.Frag) (C : Addr) : Prop where
  cls : Cls K C
  nc : NoAttr K C "combs"
  np : NoAttr K C "past"
def bookChk (K : PySem.W.Frag) (C : Addr) : Bool := PySem.W.plainGet K C Str.empty && (PySem.W.hasDictIn K C && (PySem.W.plainOver K C && (PySem.W.findIn K (.ref C) "__setattr__" == some (some (.builtin "object.__setattr__")) && (PySem.W.findIn K (.ref C) "combs" == some none && PySem.W.findIn K (.ref C) "past" == some none))))
theorem book_of {K : PySem.W.Frag} {C : Addr} (h : bookChk K C = true) : BookAt K C := by
  unfold bookChk at h
  simp only [Bool.and_eq_true, beq_iff_eq] at h
  obtain ⟨h1, h2, h3, h4, h5, h6⟩ := h
  exact ⟨⟨h1, h2, h3, h4⟩, h5, h6⟩
theorem meth_mk {K : PySem.W.Frag} {C : Addr} {cn m : Str} {st : Stmt} {f : Addr} {oc : Value} {od an : Option Addr} {osl : Array (Option Value)} {kV doc pm cdv ct : Value} (a : PySem.W.findIn K (.ref C) m = some (some (.ref f)))
    (l : K.lookup f = some ⟨oc, od, .func (PySem.W.fnOf m (cn ++ Str.ofString "." ++ m) (defArgs st) (defBody st) (defScope st) .none kV doc pm an cdv ct), osl⟩) (c : PySem.W.codeIn K cdv (cn ++ Str.ofString "." ++ m) = true) (k : PySem.W.keepIn K (.ref f) = true) (i : PySem.W.isFn K (.ref f) = true) : MethAt K C cn m st :=
  ⟨f, _, fun_mk l c k, a, i, k⟩
/-- __init__ -/
structure InitAt (K : PySem.W.Frag) (mg : Str → Option Value) (C : Addr) (x qual : Str) (st : Stmt) : Prop where
  ex : ∃ f fd, Mk K C f ∧ Fun K "__init__" qual st f fd
  m : mg x = some (.ref C)
theorem init_mk {K : PySem.W.Frag} {mg : Str → Option Value} {C : Addr} {x qual : Str} {st : Stmt} {f : Addr} {oc : Value} {od an : Option Addr} {osl : Array (Option Value)} {kV doc pm cdv ct : Value} (hm : mg x = some (.ref C)) (a : PySem.W.findIn K (.ref C) "__init__" = some (some (.ref f)))
    (l : K.lookup f = some ⟨oc, od, .func (PySem.W.fnOf "__init__" qual (defArgs st) (defBody st) (defScope st) .none kV doc pm an cdv ct), osl⟩) (c : PySem.W.codeIn K cdv qual = true) (k : PySem.W.keepIn K (.ref f) = true) (i : PySem.W.isFn K (.ref f) = true) (k2 : PySem.W.keepIn K (.ref C) = true) (mk : PySem.W.makesIn K C = true) : InitAt K mg C x qual st :=
  ⟨⟨f, _, ⟨mk, a, i, k2⟩, fun_mk l c k⟩, hm⟩
theorem ref_mk {K : PySem.W.Frag} {mg : Str → Option Value} {h : Heap} {x : Str} {f : Addr} (X : K.In h) (G : h.Ns mainGlobals mg) (a : PySem.W.nsIn K mainGlobals x = some (some (.ref f))) : mg x = some (.ref f) := PySem.W.mg_of X G a
end L2

namespace L2
open PySem PySem.Spec PyProof.Rows

/-! ## A trail of dicts that a law keeps beside a book -/
/-- another dict is another one -/
theorem Kept.updD {L : Addr → Prop} {H : Hp} {a p : Addr} {cs : Combs} {kvs0 : List (Key × V)} {o : HO} (k : Kept L H a cs) (hn : a ≠ p) (hp : H p = some (.dK kvs0)) : Kept L (upd H p o) a cs := by
  obtain ⟨kvs, e, r⟩ := k
  exact ⟨kvs, by rw [upd_ne hn]; exact e, r.updD hp⟩
def Trail (L G : Addr → Prop) (H : Hp) : List V → List Combs → Prop := Paired fun v cs => ∃ z, v = V.ref z ∧ Kept L H z cs ∧ ¬ G z
theorem Trail.same {L G : Addr → Prop} {H H' : Hp} {vs : List V} {css : List Combs} (t : Trail L G H vs css) (s : Same H H') : Trail L G H' vs css := Paired.mono (fun _ _ ⟨z, e, k, n⟩ => ⟨z, e, k.same s, n⟩) t
end L2

namespace L2
open PySem PySem.Spec PyProof.Rows

/-! ## xs.count(n) -/
section
variable {X : Cx}
end
section
variable {X : Cx} {T id : String} {name : Str} {r : V → List V → Hp → VK → Prop} {o e : Expr} {es : List Expr} {to : TE} {t : TA} {apos cpos : Pos}
end
/-! ## displays of dicts, wrapped -/
end L2

namespace L2
open PySem PySem.Spec PyProof.Rows

/-! ## Shapes as data -/
def pw (t : Int) : Int := 2 ^ t.toNat
def worth (ts : List Int) : Int := (ts.map pw).sum
/-- the places of a shape that are under a tooth -/
def aheadOf (n : Int) : List Int := ((List.range 7).filter fun d => n.toNat.testBit d).map fun i => ((i : Nat) : Int)
def meets (ah ts : List Int) : Bool := ts.any fun t => decide (t ∈ ah)
/-- the places under a tooth, one place further -/
def afterOf (ah ts : List Int) : List Int := ((canon (ah ++ ts)).filter fun d => decide (0 < d)).map fun d => d - 1
theorem worth_nil : worth [] = 0 := rfl
theorem worth_cons (t : Int) (ts : List Int) : worth (t :: ts) = pw t + worth ts := rfl
theorem worth_append (a b : List Int) : worth (a ++ b) = worth a + worth b := by
  induction a with
  | nil => simp [worth]
  | cons t a ih => rw [List.cons_append, worth_cons, worth_cons, ih]; omega
theorem worth_perm {a b : List Int} (h : a.Perm b) : worth a = worth b := by
  induction h with
  | nil => rfl
  | cons x _ ih => rw [worth_cons, worth_cons, ih]
  | swap x y l => simp only [worth_cons]; omega
  | trans _ _ h1 h2 => exact h1.trans h2
theorem pw_pos (t : Int) : 0 < pw t := by unfold pw; exact Int.pow_pos (by decide)
theorem worth_nn (ts : List Int) : 0 ≤ worth ts := by
  induction ts with
  | nil => exact Int.le_refl _
  | cons t ts ih => rw [worth_cons]; have := pw_pos t; omega
/-- the bits of a sum of powers -/
def bitSum (f : Nat → Bool) : Nat → Nat
  | 0 => 0
  | k + 1 => 2 ^ k * (if f k then 1 else 0) + bitSum f k
theorem bitSum_succ (f : Nat → Bool) (k : Nat) : bitSum f (k + 1) = 2 ^ k * (if f k then 1 else 0) + bitSum f k := rfl
theorem bitSum_lt (f : Nat → Bool) : ∀ k, bitSum f k < 2 ^ k
  | 0 => Nat.zero_lt_one
  | k + 1 => by
    have := bitSum_lt f k
    rw [bitSum_succ]
    rw [Nat.pow_succ]
    cases f k
    · simp; omega
    · simp; omega
theorem bitSum_test (f : Nat → Bool) (i : Nat) : ∀ k, (bitSum f k).testBit i = (decide (i < k) && f i)
  | 0 => by simp [bitSum]
  | k + 1 => by
    rw [bitSum_succ, Nat.testBit_two_pow_mul_add _ (bitSum_lt f k), bitSum_test f i k]
    by_cases h : i < k
    · rw [if_pos h, decide_eq_true h, decide_eq_true (show i < k + 1 by omega)]
    · rw [if_neg h]
      by_cases e : i = k
      · subst e
        rw [Nat.sub_self, decide_eq_true (Nat.lt_succ_self i)]
        cases f i <;> rfl
      · rw [decide_eq_false (show ¬ i < k + 1 by omega), Bool.false_and]
        cases f k
        · exact Nat.zero_testBit _
        · show (1 : Nat).testBit (i - k) = false
          rw [Bool.eq_false_iff]
          exact fun z => absurd (Nat.testBit_one_eq_true_iff_self_eq_zero.mp z) (by omega)
theorem worth_bits (f : Nat → Bool) : ∀ k, worth (((List.range k).filter f).map fun i => ((i : Nat) : Int)) = ((bitSum f k : Nat) : Int)
  | 0 => rfl
  | k + 1 => by
    rw [List.range_succ, List.filter_append, List.map_append, worth_append, worth_bits f k, bitSum_succ]
    cases h : f k
    · simp [h, worth]
    · simp only [h, List.filter_cons, List.filter_nil, if_true, List.map_cons, List.map_nil, worth_cons, worth_nil]
      unfold pw
      rw [Int.toNat_natCast]
      push_cast
      omega
theorem bits_test {f : Nat → Bool} {k : Nat} (i : Nat) : (worth (((List.range k).filter f).map fun i => ((i : Nat) : Int))).toNat.testBit i = (decide (i < k) && f i) := by
  rw [worth_bits, Int.toNat_natCast, bitSum_test]
theorem worth_ahead {n : Int} (h0 : 0 ≤ n) (h1 : n < 128) : worth (aheadOf n) = n := by
  unfold aheadOf
  rw [worth_bits]
  have : bitSum (fun d => n.toNat.testBit d) 7 = n.toNat := by
    refine Nat.eq_of_testBit_eq fun i => ?_
    rw [bitSum_test]
    by_cases h : i < 7
    · rw [decide_eq_true h, Bool.true_and]
    · rw [decide_eq_false h, Bool.false_and]
      symm
      refine Nat.testBit_lt_two_pow (Nat.lt_of_lt_of_le (show n.toNat < 2 ^ 7 by omega) (Nat.pow_le_pow_right (by decide) (by omega)))
  rw [this]
  omega
theorem mem_ahead {n t : Int} : t ∈ aheadOf n ↔ 0 ≤ t ∧ t ≤ 6 ∧ n.toNat.testBit t.toNat = true := by
  unfold aheadOf
  simp only [List.mem_map, List.mem_filter, List.mem_range]
  constructor
  · rintro ⟨i, ⟨hi, hb⟩, rfl⟩
    exact ⟨by omega, by omega, by simpa using hb⟩
  · rintro ⟨h0, h6, hb⟩
    exact ⟨t.toNat, ⟨by omega, hb⟩, by omega⟩
theorem meets_false {ah ts : List Int} : meets ah ts = false ↔ ∀ t ∈ ts, t ∉ ah := by
  unfold meets
  simp [List.any_eq_false]
theorem and_worth {n : Int} {ts : List Int} (h0 : 0 ≤ n) (h1 : n < 128) (g : GT ts) : Builtin.bitAnd n (worth ts) = 0 ↔ meets (aheadOf n) ts = false := by
  have hb : Builtin.bitAnd n (worth ts) = ((n.toNat &&& (worth ts).toNat : Nat) : Int) := by
    unfold Builtin.bitAnd
    rw [decide_eq_true h0, decide_eq_true (worth_nn ts)]
  rw [hb, meets_false]
  obtain ⟨f, rfl, _⟩ := g
  constructor
  · intro h t ht ha
    obtain ⟨t0, t6, tb⟩ := mem_ahead.mp ha
    obtain ⟨i, hi, rfl⟩ := List.mem_map.mp ht
    obtain ⟨hr, hf⟩ := List.mem_filter.mp hi
    have z : (n.toNat &&& (worth (((List.range 8).filter f).map fun i => ((i : Nat) : Int))).toNat) = 0 := by omega
    have z := congrArg (fun m => m.testBit i) z
    simp only [Nat.testBit_and, bits_test, Nat.zero_testBit] at z
    rw [Int.toNat_natCast] at tb
    rw [tb, hf, decide_eq_true (List.mem_range.mp hr)] at z
    exact absurd z (by decide)
  · intro h
    have z : (n.toNat &&& (worth (((List.range 8).filter f).map fun i => ((i : Nat) : Int))).toNat) = 0 := by
      refine Nat.eq_of_testBit_eq fun i => ?_
      rw [Nat.testBit_and, bits_test, Nat.zero_testBit]
      cases e : n.toNat.testBit i with
      | false => rfl
      | true =>
        have hi : i < 7 := by
          apply Classical.byContradiction
          intro hn
          have := Nat.testBit_lt_two_pow (Nat.lt_of_lt_of_le (show n.toNat < 2 ^ 7 by omega) (Nat.pow_le_pow_right (by decide) (show 7 ≤ i by omega)))
          rw [this] at e
          exact absurd e (by decide)
        cases ef : f i with
        | false => simp
        | true =>
          exfalso
          refine h (i : Int) (List.mem_map.mpr ⟨i, List.mem_filter.mpr ⟨List.mem_range.mpr (by omega), ef⟩, rfl⟩) (mem_ahead.mpr ⟨by omega, by omega, ?_⟩)
          rwa [Int.toNat_natCast]
    omega
theorem worth_half (l : List Int) (h : ∀ t ∈ l, 0 ≤ t) : worth l = 2 * worth ((l.filter fun d => decide (0 < d)).map fun d => d - 1) + ((l.count 0 : Nat) : Int) := by
  induction l with
  | nil => rfl
  | cons t l ih =>
    have ih := ih fun x hx => h x (List.mem_cons_of_mem _ hx)
    have t0 := h t List.mem_cons_self
    rw [worth_cons, List.filter_cons, List.count_cons]
    by_cases e : t = 0
    · subst e
      rw [ih]
      simp [pw]
      omega
    · have hp : 0 < t := by omega
      have : pw t = 2 * pw (t - 1) := by
        unfold pw
        rw [show t.toNat = (t - 1).toNat + 1 by omega, Int.pow_succ]
        omega
      rw [if_pos (decide_eq_true hp), List.map_cons, worth_cons, this, ih]
      rw [if_neg (by simpa using e)]
      omega
theorem after_in {ah ts : List Int} : ∀ d ∈ afterOf ah ts, 0 ≤ d ∧ d ≤ 6 := by
  intro d hd
  obtain ⟨x, hx, rfl⟩ := List.mem_map.mp hd
  obtain ⟨hc, hp⟩ := List.mem_filter.mp hx
  have := (mem_canon.mp hc).2
  have := of_decide_eq_true hp
  omega
theorem ahead_nodup (n : Int) : (aheadOf n).Nodup := by
  refine nodup_lt ?_
  unfold aheadOf
  rw [List.pairwise_map]
  refine List.Pairwise.sublist List.filter_sublist (List.Pairwise.imp ?_ (List.pairwise_lt_range (n := 7)))
  intro a b h
  omega
theorem after_worth {ah ts : List Int} (ha : ah.Nodup) (hr : ∀ t ∈ ah, 0 ≤ t ∧ t ≤ 6) (ht : ts.Nodup) (hr' : ∀ t ∈ ts, 0 ≤ t ∧ t ≤ 7) (hm : meets ah ts = false) : worth (afterOf ah ts) = (worth ah + worth ts) / 2 := by
  have hn : (ah ++ ts).Nodup := List.nodup_append.mpr ⟨ha, ht, fun a h1 b h2 e => meets_false.mp hm b h2 (e ▸ h1)⟩
  have hp : (canon (ah ++ ts)).Perm (ah ++ ts) := by
    rw [List.perm_ext_iff_of_nodup (canon_nodup _) hn]
    intro t
    rw [mem_canon]
    refine ⟨fun h => h.1, fun h => ⟨h, ?_⟩⟩
    rcases List.mem_append.mp h with z | z
    · have := hr t z; omega
    · exact hr' t z
  have hw := worth_half (canon (ah ++ ts)) fun t h => (mem_canon.mp h).2.1
  rw [worth_perm hp, worth_append] at hw
  have hc := List.nodup_iff_count.mp (canon_nodup (ah ++ ts)) 0
  unfold afterOf
  omega
theorem ahead_in {n : Int} : ∀ t ∈ aheadOf n, 0 ≤ t ∧ t ≤ 6 := fun t h => ⟨(mem_ahead.mp h).1, (mem_ahead.mp h).2.1⟩
theorem zero_ahead {n : Int} (h0 : 0 ≤ n) : (0 : Int) ∈ aheadOf n ↔ n % 2 = 1 := by
  rw [mem_ahead]
  have : n.toNat.testBit 0 = decide (n.toNat % 2 = 1) := Nat.testBit_zero _
  rw [show (0 : Int).toNat = 0 from rfl, this, decide_eq_true_eq]
  omega
/-- the ways on from a shape, as the program reckons them -/
def stepsOf (cs : Combs) (n : Int) : List (Str × Int) := if n % 2 = 1 then [("", n / 2)] else (cs.filter fun c => decide (Builtin.bitAnd n (worth c.2) = 0)).map fun c => (c.1, (n + worth c.2) / 2)
/-- and as places -/
def goesOf (cs : Combs) (ah : List Int) : List (Str × List Int) := if (0 : Int) ∈ ah then [("", afterOf ah [])] else (cs.filter fun c => !meets ah c.2).map fun c => (c.1, afterOf ah c.2)
theorem steps_goes {cs : Combs} {n : Int} (h0 : 0 ≤ n) (h1 : n < 128) (g : ∀ c ∈ cs, GT c.2) : (goesOf cs (aheadOf n)).map (fun p => (p.1, worth p.2)) = stepsOf cs n := by
  unfold goesOf stepsOf
  by_cases e : n % 2 = 1
  · rw [if_pos e, if_pos ((zero_ahead h0).mpr e), List.map_cons, List.map_nil, after_worth (ahead_nodup n) ahead_in List.nodup_nil (by simp) (by rfl), worth_ahead h0 h1, worth_nil, Int.add_zero]
  · rw [if_neg e, if_neg fun z => e ((zero_ahead h0).mp z), List.map_map]
    have hf : (cs.filter fun c => !meets (aheadOf n) c.2) = cs.filter fun c => decide (Builtin.bitAnd n (worth c.2) = 0) := by
      refine List.filter_congr fun c hc => ?_
      rw [Bool.eq_iff_iff, decide_eq_true_eq, and_worth h0 h1 (g c hc), Bool.not_eq_true']
    rw [hf]
    refine List.map_congr_left fun c hc => ?_
    obtain ⟨hc, hz⟩ := List.mem_filter.mp hc
    have gc := g c hc
    show (c.1, worth (afterOf (aheadOf n) c.2)) = _
    rw [after_worth (ahead_nodup n) ahead_in (nodup_lt (gt_lt gc)) (gt_in gc) ((and_worth h0 h1 gc).mp (of_decide_eq_true hz)), worth_ahead h0 h1]
/-! ## Ways on, as they lie in the heap -/
def StepsR (H : Hp) : List V → List (Str × Int) → Prop
  | [], [] => True
  | v :: vs, s :: ss => (∃ q, v = .ref q ∧ H q = some (.tup [.str s.1, .int s.2])) ∧ StepsR H vs ss
  | _, _ => False
theorem StepsR.mono {H H' : Hp} (m : ∀ q xs, H q = some (.tup xs) → H' q = some (.tup xs)) : ∀ {vs : List V} {ss : List (Str × Int)}, StepsR H vs ss → StepsR H' vs ss
  | [], [], _ => trivial
  | _ :: _, _ :: _, ⟨⟨q, e, h⟩, r⟩ => ⟨⟨q, e, m q _ h⟩, r.mono m⟩
  | [], _ :: _, x => x.elim
  | _ :: _, [], x => x.elim
theorem StepsR.length {H : Hp} : ∀ {vs : List V} {ss : List (Str × Int)}, StepsR H vs ss → vs.length = ss.length
  | [], [], _ => rfl
  | _ :: _, _ :: _, ⟨_, r⟩ => by rw [List.length_cons, List.length_cons, r.length]
  | [], _ :: _, x => x.elim
  | _ :: _, [], x => x.elim
theorem StepsR.snoc {H : Hp} {q : Addr} {s : Str × Int} (hq : H q = some (.tup [.str s.1, .int s.2])) : ∀ {vs : List V} {ss : List (Str × Int)}, StepsR H vs ss → StepsR H (vs ++ [.ref q]) (ss ++ [s])
  | [], [], _ => ⟨⟨q, rfl, hq⟩, trivial⟩
  | _ :: _, _ :: _, ⟨a, r⟩ => ⟨a, r.snoc hq⟩
  | [], _ :: _, x => x.elim
  | _ :: _, [], x => x.elim
theorem StepsR.get {H : Hp} {i : Nat} {s : Str × Int} : ∀ {vs : List V} {ss : List (Str × Int)}, StepsR H vs ss → ss[i]? = some s → ∃ q, vs[i]? = some (.ref q) ∧ H q = some (.tup [.str s.1, .int s.2]) := by
  induction i with
  | zero =>
    intro vs ss r e
    match vs, ss, r with
    | [], [], _ => simp at e
    | v :: _, x :: _, ⟨⟨q, ev, h⟩, _⟩ =>
      simp at e
      subst e
      exact ⟨q, by rw [ev]; rfl, h⟩
  | succ i ih =>
    intro vs ss r e
    match vs, ss, r with
    | [], [], _ => simp at e
    | v :: vs, x :: ss, ⟨_, r⟩ =>
      obtain ⟨q, e1, e2⟩ := ih r (by simpa using e)
      exact ⟨q, by simpa using e1, e2⟩
/-- the combs in the order of names -/
def byNames (cs : Combs) (nm : List Str) : Combs := nm.map fun x => (x, (cGet cs x).getD [])
theorem byNames_snoc {cs : Combs} {nm : List Str} {x : Str} {ts : List Int} (h : cGet cs x = some ts) : byNames cs (nm ++ [x]) = byNames cs nm ++ [(x, ts)] := by
  unfold byNames
  rw [List.map_append, List.map_cons, List.map_nil, h]
  rfl
theorem steps_snoc {cs : Combs} {c : Str × List Int} {n : Int} (h : ¬ n % 2 = 1) : stepsOf (cs ++ [c]) n = stepsOf cs n ++ if Builtin.bitAnd n (worth c.2) = 0 then [(c.1, (n + worth c.2) / 2)] else [] := by
  unfold stepsOf
  rw [if_neg h, if_neg h, List.filter_append, List.map_append]
  congr 1
  by_cases e : Builtin.bitAnd n (worth c.2) = 0
  · rw [if_pos e, List.filter_cons, if_pos (decide_eq_true e)]
    rfl
  · rw [if_neg e, List.filter_cons, if_neg (by simpa using e)]
    rfl
theorem steps_nil {n : Int} (h : ¬ n % 2 = 1) : stepsOf [] n = [] := by
  unfold stepsOf
  rw [if_neg h]
  rfl
theorem steps_odd {cs : Combs} {n : Int} (h : n % 2 = 1) : stepsOf cs n = [((Str.ofString "" : Str), n / 2)] := by
  unfold stepsOf
  exact if_pos h
theorem steps_len {cs : Combs} {n : Int} (h : ¬ n % 2 = 1) : (stepsOf cs n).length ≤ cs.length := by
  unfold stepsOf
  rw [if_neg h, List.length_map]
  exact List.length_filter_le _ _
theorem in_intS (t : Int) (ts : List Int) : inV (V.int t) (ts.map V.int) = decide (t ∈ ts) := by
  unfold inV
  rw [List.any_map, Bool.eq_iff_iff, List.any_eq_true, decide_eq_true_eq]
  constructor
  · rintro ⟨x, hx, e⟩
    have : x = t := by
      have e' : (x == t) = true := e
      exact eq_of_beq e'
    rw [← this]; exact hx
  · intro h
    exact ⟨t, h, beq_self_eq_true t⟩
theorem after_canon {ah ts ns : List Int} (ha : ah.Nodup) (hr : ∀ t ∈ ah, 0 ≤ t ∧ t ≤ 6) (ht : ts.Nodup) (hr' : ∀ t ∈ ts, 0 ≤ t ∧ t ≤ 7) (hm : meets ah ts = false) (hp : ns.Perm (ah ++ ts)) (hs : ns.Pairwise (· ≤ ·)) : ns = canon (ah ++ ts) := by
  refine canon_of hp hs (List.nodup_append.mpr ⟨ha, ht, fun a h1 b h2 e => meets_false.mp hm b h2 (e ▸ h1)⟩) fun t h => ?_
  rcases List.mem_append.mp h with z | z
  · have := hr t z; omega
  · exact hr' t z
/-! ## Ways on as places, as they lie in the heap -/
def GoesR (H : Hp) : List V → List (Str × List Int) → Prop
  | [], [] => True
  | v :: vs, s :: ss => (∃ q t, v = .ref q ∧ H q = some (.tup [.str s.1, .ref t]) ∧ H t = some (.tup (s.2.map V.int))) ∧ GoesR H vs ss
  | _, _ => False
theorem GoesR.mono {H H' : Hp} (m : ∀ q xs, H q = some (.tup xs) → H' q = some (.tup xs)) : ∀ {vs : List V} {ss : List (Str × List Int)}, GoesR H vs ss → GoesR H' vs ss
  | [], [], _ => trivial
  | _ :: _, _ :: _, ⟨⟨q, t, e, h, h2⟩, r⟩ => ⟨⟨q, t, e, m q _ h, m t _ h2⟩, r.mono m⟩
  | [], _ :: _, x => x.elim
  | _ :: _, [], x => x.elim
theorem GoesR.length {H : Hp} : ∀ {vs : List V} {ss : List (Str × List Int)}, GoesR H vs ss → vs.length = ss.length
  | [], [], _ => rfl
  | _ :: _, _ :: _, ⟨_, r⟩ => by rw [List.length_cons, List.length_cons, r.length]
  | [], _ :: _, x => x.elim
  | _ :: _, [], x => x.elim
theorem GoesR.snoc {H : Hp} {q t : Addr} {s : Str × List Int} (hq : H q = some (.tup [.str s.1, .ref t])) (ht : H t = some (.tup (s.2.map V.int))) : ∀ {vs : List V} {ss : List (Str × List Int)}, GoesR H vs ss → GoesR H (vs ++ [.ref q]) (ss ++ [s])
  | [], [], _ => ⟨⟨q, t, rfl, hq, ht⟩, trivial⟩
  | _ :: _, _ :: _, ⟨a, r⟩ => ⟨a, r.snoc hq ht⟩
  | [], _ :: _, x => x.elim
  | _ :: _, [], x => x.elim
theorem GoesR.get {H : Hp} {i : Nat} {s : Str × List Int} : ∀ {vs : List V} {ss : List (Str × List Int)}, GoesR H vs ss → ss[i]? = some s → ∃ q t, vs[i]? = some (.ref q) ∧ H q = some (.tup [.str s.1, .ref t]) ∧ H t = some (.tup (s.2.map V.int)) := by
  induction i with
  | zero =>
    intro vs ss r e
    match vs, ss, r with
    | [], [], _ => simp at e
    | v :: _, x :: _, ⟨⟨q, t, ev, h, h2⟩, _⟩ =>
      simp at e
      subst e
      exact ⟨q, t, by rw [ev]; rfl, h, h2⟩
  | succ i ih =>
    intro vs ss r e
    match vs, ss, r with
    | [], [], _ => simp at e
    | v :: vs, x :: ss, ⟨_, r⟩ =>
      obtain ⟨q, t, e1, e2⟩ := ih r (by simpa using e)
      exact ⟨q, t, by simpa using e1, e2⟩
theorem goes_in {cs : Combs} {ah : List Int} (h : (0 : Int) ∈ ah) : goesOf cs ah = [((Str.ofString "" : Str), afterOf ah [])] := by
  unfold goesOf
  exact if_pos h
theorem goes_nil {ah : List Int} (h : (0 : Int) ∉ ah) : goesOf [] ah = [] := by
  unfold goesOf
  rw [if_neg h]
  rfl
theorem goes_snoc {cs : Combs} {c : Str × List Int} {ah : List Int} (h : (0 : Int) ∉ ah) : goesOf (cs ++ [c]) ah = goesOf cs ah ++ if meets ah c.2 = true then [] else [(c.1, afterOf ah c.2)] := by
  unfold goesOf
  rw [if_neg h, if_neg h, List.filter_append, List.map_append]
  congr 1
  by_cases e : meets ah c.2 = true
  · rw [if_pos e, List.filter_cons, if_neg (by rw [e]; decide)]
    rfl
  · rw [if_neg e, List.filter_cons, if_pos (by simpa using e)]
    rfl
end L2

namespace L2
open PySem PySem.Spec PyProof.Rows PySem.W

/-! ## The order that the list sort asks for, over a strict order of the places -/
structure LtOk (n : Nat) (lt : Nat → Nat → Bool) : Prop where
  tr : ∀ {a b c}, lt a b = true → lt b c = true → lt a c = true
  tot : ∀ {a b}, a < n → b < n → a ≠ b → lt a b = false → lt b a = true
  irr : ∀ a, lt a a = false
abbrev gd (p : Array Nat) (i : Nat) : Nat := p.getD i 0
def Pm (n : Nat) (p : Array Nat) : Prop := p.Perm (List.toArray (List.range n))
theorem Pm.size {n : Nat} {p : Array Nat} (h : Pm n p) : p.size = n := by
  have := Array.Perm.size_eq h
  simpa using this
theorem Pm.list {n : Nat} {p : Array Nat} (h : Pm n p) : p.toList.Perm (List.range n) := by
  have := Array.Perm.toList h
  simpa using this
theorem gd_eq {p : Array Nat} {i : Nat} (h : i < p.size) : p[i]? = some (gd p i) := by simp [gd, h]
theorem gd_of {p : Array Nat} {i x : Nat} (h : p[i]? = some x) : gd p i = x := by simp [gd, Array.getD_eq_getD_getElem?, h]
theorem Pm.lt {n : Nat} {p : Array Nat} (h : Pm n p) {i : Nat} (hi : i < n) : gd p i < n := by
  have e := gd_eq (p := p) (i := i) (by rw [h.size]; exact hi)
  have : gd p i ∈ p.toList := by
    rw [← Array.getElem?_toList] at e
    exact List.mem_of_getElem? e
  exact List.mem_range.mp (h.list.mem_iff.mp this)
theorem Pm.ne {n : Nat} {p : Array Nat} (h : Pm n p) {i j : Nat} (hi : i < n) (hj : j < n) (hn : i ≠ j) : gd p i ≠ gd p j := by
  intro e
  have nd : p.toList.Nodup := h.list.nodup_iff.mpr List.nodup_range
  have e1 := gd_eq (p := p) (i := i) (by rw [h.size]; exact hi)
  have e2 := gd_eq (p := p) (i := j) (by rw [h.size]; exact hj)
  rw [← Array.getElem?_toList] at e1 e2
  rw [← e, ← e1] at e2
  exact hn ((List.getElem?_inj (by rw [Array.length_toList, h.size]; exact hi) nd).mp e2.symm)
section
variable {n : Nat} {lt : Nat → Nat → Bool} {cmp : Nat → Nat → (Bool → Shared → Prop) → Shared → Prop} {s : Shared}
def Up (lt : Nat → Nat → Bool) (p : Array Nat) (m : Nat) : Prop := ∀ i j, i < j → j < m → lt (gd p i) (gd p j) = true
def Dn (lt : Nat → Nat → Bool) (p : Array Nat) (m : Nat) : Prop := ∀ i j, i < j → j < m → lt (gd p j) (gd p i) = true
theorem Up.more (L : LtOk n lt) {p : Array Nat} {m : Nat} (u : Up lt p m) (h : lt (gd p (m - 1)) (gd p m) = true) : Up lt p (m + 1) := by
  intro i j hij hj
  by_cases e : j = m
  · subst e
    by_cases e2 : i = j - 1
    · rw [e2]; exact h
    · exact L.tr (u i (j - 1) (by omega) (by omega)) h
  · exact u i j hij (by omega)
theorem Dn.more (L : LtOk n lt) {p : Array Nat} {m : Nat} (u : Dn lt p m) (h : lt (gd p m) (gd p (m - 1)) = true) : Dn lt p (m + 1) := by
  intro i j hij hj
  by_cases e : j = m
  · subst e
    by_cases e2 : i = j - 1
    · rw [e2]; exact h
    · exact L.tr h (u i (j - 1) (by omega) (by omega))
  · exact u i j hij (by omega)
variable (L : LtOk n lt) (hc : ∀ i j C, i < n → j < n → i ≠ j → C (lt i j) s → cmp i j C s)
include L hc
theorem asc_ok {p : Array Nat} (pm : Pm n p) {Q : Nat → Shared → Prop} : ∀ f m, 1 ≤ m → m + f = n → Up lt p m → (∀ m', m ≤ m' → m' ≤ n → Up lt p m' → (m' = n ∨ lt (gd p m') (gd p (m' - 1)) = true) → Q m' s) → (kas_asc p f m).kasWp cmp Q s
  | 0, m, h1, hf, u, q => q m (Nat.le_refl _) (by omega) u (.inl (by omega))
  | f + 1, m, h1, hf, u, q => by
    refine hc _ _ _ (pm.lt (by omega)) (pm.lt (by omega)) (pm.ne (by omega) (by omega) (by omega)) ?_
    cases e : lt (gd p m) (gd p (m - 1)) with
    | true => exact q m (Nat.le_refl _) (by omega) u (.inr e)
    | false => exact asc_ok pm f (m + 1) (by omega) (by omega) (u.more L (L.tot (pm.lt (by omega)) (pm.lt (by omega)) (pm.ne (by omega) (by omega) (by omega)) e)) fun m' a b c d => q m' (by omega) b c d
theorem desc_ok {p : Array Nat} (pm : Pm n p) {Q : Array Nat × Nat × Nat → Shared → Prop} : ∀ f m, 1 ≤ m → m + f = n → Dn lt p m → (∀ m', m ≤ m' → m' ≤ n → Dn lt p m' → Q (p, m', 0) s) → (kas_desc f p m 0).kasWp cmp Q s
  | 0, m, h1, hf, u, q => q m (Nat.le_refl _) (by omega) u
  | f + 1, m, h1, hf, u, q => by
    refine hc _ _ _ (pm.lt (by omega)) (pm.lt (by omega)) (pm.ne (by omega) (by omega) (by omega)) ?_
    cases e : lt (gd p m) (gd p (m - 1)) with
    | true => exact desc_ok pm f (m + 1) (by omega) (by omega) (u.more L e) fun m' a b c => q m' (by omega) b c
    | false =>
      refine hc _ _ _ (pm.lt (by omega)) (pm.lt (by omega)) (pm.ne (by omega) (by omega) (by omega)) ?_
      rw [show lt (p.getD (m - 1) 0) (p.getD m 0) = true from L.tot (pm.lt (by omega)) (pm.lt (by omega)) (pm.ne (by omega) (by omega) (by omega)) e]
      exact q m (Nat.le_refl _) (by omega) u
omit hc L in
theorem Dn.rev {p : Array Nat} (pm : Pm n p) {m : Nat} (hm : m ≤ n) (u : Dn lt p m) : Up lt (kas_rev p 0 m) m := by
  have g : ∀ i, i < m → gd (kas_rev p 0 m) i = gd p (m - 1 - i) := fun i hi => by
    refine gd_of ?_
    unfold kas_rev
    rw [getElem?_mirror_all (by rw [pm.size]; exact hm), if_pos ⟨by omega, hi⟩, show 0 + m - 1 - i = m - 1 - i by omega]
    exact gd_eq (by rw [pm.size]; omega)
  intro i j hij hj
  rw [g i (by omega), g j hj]
  exact u _ _ (by omega) (by omega)
omit hc L in
theorem Pm.rev {p : Array Nat} (pm : Pm n p) (i j : Nat) : Pm n (kas_rev p i j) := Array.Perm.trans (mirror_perm _ _ _ _) pm
theorem count_ok {p : Array Nat} (pm : Pm n p) (hn : 1 ≤ n) {Q : Nat × Array Nat → Shared → Prop} (q : ∀ m p', 1 ≤ m → m ≤ n → Pm n p' → Up lt p' m → Q (m, p') s) : (kas_count n p).kasWp cmp Q s := by
  unfold kas_count
  rw [KasT.kasWp_bind]
  refine asc_ok L hc pm (n - 1) 1 (Nat.le_refl _) (by omega) (fun i j a b => by omega) fun m h1 h2 u h => ?_
  by_cases e : m = n
  · rw [if_pos (by simpa using e)]
    exact q m p h1 h2 pm u
  · rw [if_neg (by simpa using e)]
    rcases h with h | h
    · exact absurd h e
    by_cases e2 : m > 1
    · rw [if_pos e2]
      refine hc _ _ _ (pm.lt (by omega)) (pm.lt (by omega)) (pm.ne (by omega) (by omega) (by omega)) ?_
      rw [show lt (p.getD 0 0) (p.getD (m - 1) 0) = true from u 0 (m - 1) (by omega) (by omega)]
      exact q m p h1 h2 pm u
    · rw [if_neg e2]
      have e3 : m = 1 := by omega
      subst e3
      unfold kas_descPart
      rw [KasT.kasWp_bind]
      refine desc_ok L hc pm (n - (1 + 1)) (1 + 1) (by omega) (by omega) (fun i j a b => by
        obtain ⟨rfl, rfl⟩ : i = 0 ∧ j = 1 := by omega
        exact h) fun m' a b d => ?_
      show (kas_tail3 m' n p).kasWp cmp Q s
      unfold kas_tail3
      rw [KasT.kasWp_bind]
      refine asc_ok L hc (pm.rev 0 m') (n - m') m' (by omega) (by omega) (d.rev pm b) fun m2 a2 b2 u2 _ => ?_
      exact q m2 _ (by omega) b2 (pm.rev 0 m') u2
theorem place_ok {p : Array Nat} (pm : Pm n p) {k : Nat} (hk : k < n) (u : Up lt p k) {Q : Nat → Shared → Prop} (q : ∀ l, l ≤ k → (∀ i, i < l → lt (gd p i) (gd p k) = true) → (∀ i, l ≤ i → i < k → lt (gd p k) (gd p i) = true) → Q l s) :
    ∀ f l r, l ≤ r → r ≤ k → r - l ≤ f → (∀ i, i < l → lt (gd p i) (gd p k) = true) → (∀ i, r ≤ i → i < k → lt (gd p k) (gd p i) = true) → (kas_place p k f l r).kasWp cmp Q s
  | 0, l, r, h1, h2, h3, a, b => q l (by omega) a fun i x y => b i (by omega) y
  | f + 1, l, r, h1, h2, h3, a, b => by
    unfold kas_place
    by_cases e : l ≥ r
    · rw [if_pos e]
      exact q l (by omega) a fun i x y => b i (by omega) y
    · rw [if_neg e]
      refine hc _ _ _ (pm.lt hk) (pm.lt (by omega)) (pm.ne hk (by omega) (by omega)) ?_
      cases e2 : lt (gd p k) (gd p ((l + r) / 2)) with
      | true =>
        refine place_ok pm hk u q f l ((l + r) / 2) (by omega) (by omega) (by omega) a fun i x y => ?_
        by_cases e3 : i = (l + r) / 2
        · rw [e3]; exact e2
        · exact L.tr e2 (u _ _ (by omega) y)
      | false =>
        have e4 := L.tot (pm.lt hk) (pm.lt (by omega)) (pm.ne hk (by omega) (by omega)) e2
        refine place_ok pm hk u q f ((l + r) / 2 + 1) r (by omega) (by omega) (by omega) (fun i x => ?_) b
        by_cases e3 : i = (l + r) / 2
        · rw [e3]; exact e4
        · exact L.tr (u i ((l + r) / 2) (by omega) (by omega)) e4
omit hc L in
theorem Up.bubble {p : Array Nat} (pm : Pm n p) {k l : Nat} (hk : k < n) (hl : l ≤ k) (u : Up lt p k) (a : ∀ i, i < l → lt (gd p i) (gd p k) = true) (b : ∀ i, l ≤ i → i < k → lt (gd p k) (gd p i) = true) : Up lt (PyProof.Rows.bubble p k (k - l)) (k + 1) := by
  have g : ∀ i, i ≤ k → gd (PyProof.Rows.bubble p k (k - l)) i = if i = l then gd p k else if l < i then gd p (i - 1) else gd p i := fun i hi => by
    refine gd_of ?_
    rw [getElem?_bubble (by rw [pm.size]; exact hk) _ (by omega), show k - (k - l) = l by omega]
    by_cases e : i = l
    · rw [if_pos e, if_pos e]; exact gd_eq (by rw [pm.size]; exact hk)
    · rw [if_neg e, if_neg e]
      by_cases e2 : l < i
      · rw [if_pos ⟨e2, hi⟩, if_pos e2]; exact gd_eq (by rw [pm.size]; omega)
      · rw [if_neg (fun z => e2 z.1), if_neg e2]; exact gd_eq (by rw [pm.size]; omega)
  intro i j hij hj
  rw [g i (by omega), g j (by omega)]
  by_cases e1 : i = l
  · rw [if_pos e1, if_neg (by omega), if_pos (by omega)]
    exact b _ (by omega) (by omega)
  · rw [if_neg e1]
    by_cases e2 : l < i
    · rw [if_pos e2, if_neg (by omega), if_pos (by omega)]
      exact u _ _ (by omega) (by omega)
    · rw [if_neg e2]
      by_cases e3 : j = l
      · rw [if_pos e3]; exact a i (by omega)
      · rw [if_neg e3]
        by_cases e4 : l < j
        · rw [if_pos e4]
          exact u _ _ (by omega) (by omega)
        · rw [if_neg e4]
          exact u _ _ hij (by omega)
theorem bin_ok {Q : Array Nat → Shared → Prop} (q : ∀ p, Pm n p → Up lt p n → Q p s) : ∀ f p k, Pm n p → k + f = n → Up lt p k → (kas_bin f p k).kasWp cmp Q s
  | 0, p, k, pm, h, u => q p pm (by rwa [show n = k by omega])
  | f + 1, p, k, pm, h, u => by
    unfold kas_bin
    rw [KasT.kasWp_bind]
    refine place_ok L hc pm (by omega) u (fun l hl a b => ?_) k 0 k (by omega) (by omega) (by omega) (fun i hi => by omega) (fun i hi h2 => by omega)
    exact bin_ok q f _ (k + 1) (Array.Perm.trans (bubble_perm _ _ _) pm) (by omega) (u.bubble pm (by omega) hl a b)
theorem sort_ok (hn : 1 ≤ n) {Q : Array Nat → Shared → Prop} (q : ∀ p, Pm n p → Up lt p n → Q p s) : (kas_sort n).kasWp cmp Q s := by
  unfold kas_sort
  rw [KasT.kasWp_bind]
  refine count_ok L hc (Array.Perm.refl _) hn fun m p h1 h2 pm u => ?_
  by_cases e : m < n
  · rw [if_pos e]
    rw [show max m 1 = m by omega]
    exact bin_ok L hc q _ p m pm (by omega) u
  · rw [if_neg e]
    exact q p pm (by rwa [show n = m by omega])
end
end L2
namespace L2
open PySem PySem.Spec PyProof.Rows PySem.W
open AutoSeq1 (wpAny_loadPart')
open MeetsSeq MeetsSeq2 MeetsSeq3

theorem lt_loop0 (l b : Addr) (its its2 : Array Value) (n n2 : Nat) {x y : Str} {t u : Tok} (h0 : its[0]? = some (.str x t)) (h1 : its2[0]? = some (.str y u)) (hne : (x.cps.toList == y.cps.toList) = false) :
    Meets (Builtin.«list.__eq__.loop» ⟨[.ref l, .ref b, rawInt 0, rawInt 0], []⟩)
      (fun _ R s => s.heap.get? l = some { cls := .type "list", dict := none, data := .seq its n, slots := #[] } ∧ s.heap.get? b = some { cls := .type "list", dict := none, data := .seq its2 n2, slots := #[] } ∧
        R (.ok (.ret (.bool (decide (x.cps.toList < y.cps.toList))))) s) := by
  intro prog w A R s h
  obtain ⟨hp, g, d, tk, os⟩ := s; obtain ⟨hl, hb, h⟩ := h
  wp_walk using wpAny_loadPart' hl, wpAny_loadPart' hb
  have e0 : its[(0 : Int).toNat]? = some (.str x t) := h0
  have e1 : its2[(0 : Int).toNat]? = some (.str y u) := h1
  rw [e0, e1]
  refine wpAny_bind (SeqRoads2.EqGives.str x y t u prog w _ _ _ _ ?_)
  rw [hne]
  wp_walk using wpAny_loadPart' hl, wpAny_loadPart' hb
  rw [e0, e1]
  refine wpAny_bind ?_
  show wpAny _ _ (compareOp .Lt (.str x t) (.str y u)) _ _ _
  refine PySem.P.lt_str ?_
  wp_walk
  exact h
theorem list_lt0 (l b : Addr) (its its2 : Array Value) (n n2 : Nat) {x y : Str} {t u : Tok} (h0 : its[0]? = some (.str x t)) (h1 : its2[0]? = some (.str y u)) (hne : (x.cps.toList == y.cps.toList) = false) :
    Meets (Builtin.«list.__lt__» ⟨[.ref l, .ref b], []⟩)
      (fun _ R s => s.heap.get? l = some { cls := .type "list", dict := none, data := .seq its n, slots := #[] } ∧ s.heap.get? b = some { cls := .type "list", dict := none, data := .seq its2 n2, slots := #[] } ∧
        R (.ok (.ret (.bool (decide (x.cps.toList < y.cps.toList))))) s) := by
  intro prog w A R s h
  obtain ⟨hp, g, d, tk, os⟩ := s; obtain ⟨hl, hb, h⟩ := h
  have f3 := AutoSeq1.sub_list_list
  wp_walk using wpAny_loadPart' hl, wpAny_loadPart' hb
  exact ⟨plainId_quiet plain_eq_loop _, codeAny_builtin entry_eq_loop (by
    rw [Around.under_plainId plain_eq_loop _]
    exact lt_loop0 l b its its2 n n2 h0 h1 hne prog w A R _ ⟨hl, hb, h⟩)⟩
section
variable {prog : Program} {w : World} {A : Around} {E : Value → Shared → Prop} {s : Shared}
/-- the comparison that the sort asks: two lists whose first texts differ -/
theorem key_lt0 {a b : Addr} {its its2 : Array Value} {n n2 : Nat} {x y : Str} {t u : Tok} {Q : Bool → Shared → Prop} (ha : s.heap.get? a = some (seqObj "list" its n)) (hb : s.heap.get? b = some (seqObj "list" its2 n2)) (h0 : its[0]? = some (.str x t)) (h1 : its2[0]? = some (.str y u)) (hne : (x.cps.toList == y.cps.toList) = false)
    (hu : A.units < cLine) (q : Q (decide (x.cps.toList < y.cps.toList)) s) : wpAny (model prog w) A (keyLt' oneType' (.ref a) (.ref b)) Q E s := by
  rw [keyLt'_oneType, oneLt'_eq]
  simp only [if_true]
  refine wpAny_bind (wpAny_cRoomFor hu ?_)
  refine wpAny_bind (wpAny_callSpecialIfBound?_slot (T := "list") ⟨_, ha, rfl⟩ F.slot_list_lt (call_meets F.slot_list_lt ⟨_, ha, rfl⟩ F.entry_list_lt (F.args_list_lt_2 _ _) (list_lt0 a b its its2 n n2 h0 h1 hne) ⟨ha, hb, ?_⟩))
  exact wpAny_truthy_bool q
/-- list.sort over a strict order that the heap's lists tell -/
theorem sort_by {lt : Nat → Nat → Bool} {a : Addr} {vs : List Value} {n : Nat} {P : PySem.Fin → Shared → Prop} (ho : s.heap.get? a = some (seqObj "list" vs.toArray n)) (L : LtOk vs.length lt) (h64 : vs.length < 64)
    (hT : ∀ h' : Heap, (∀ b o, b ≠ a → s.heap.get? b = some o → h'.get? b = some o) → ∀ v ∈ vs, Looks (model prog w) h' (typeOf v) (.type "list"))
    (hc : ∀ h' : Heap, (∀ b o, b ≠ a → s.heap.get? b = some o → h'.get? b = some o) → ∀ i j C, i < vs.length → j < vs.length → i ≠ j → C (lt i j) { s with heap := h' } → wpAny (model prog w) A (keyLt' oneType' (vs.getD i Value.none) (vs.getD j Value.none)) C (fun _ _ => False) { s with heap := h' })
    (q : ∀ p : List Nat, p.Perm (List.range vs.length) → p.Pairwise (fun i j => lt i j = true) → P (.done (.ret .none)) { s with heap := sortedHeap s.heap a vs (List.toArray (p.map fun i => vs.getD i Value.none)) }) :
    wpAny (model prog w) A (Builtin.«list.sort» ⟨[.ref a], []⟩) P E s := by
  rw [list_sort_plain]; have hlt := Heap.lt_size ho
  obtain ⟨e1, o1⟩ : ∃ e, (s.heap.update a (Obj.mapSeq fun _ => (#[] : Array Value))).get? a = some (seqObj "list" #[] e) := ⟨_, get?_update_seq ho fun _ => #[]⟩
  have hz : vs.toArray.size = vs.length := List.size_toArray
  have big : 64 ≤ sizeLine := by decide
  refine wpAny_bind (listItems_at ho rfl (wpAny_bind (listUpdate_at ho rfl (wpAny_bind (seqEpoch_at o1 rfl (wpAny_bind (wpAny_newTuple (wpAny_bind (wpAny_newList (wpAny_holding ?_) (Nat.zero_le _))) (by show vs.length ≤ _; omega))))) (by rw [hz]; omega) (Nat.zero_le _))))
  have o6 : (((s.heap.update a (Obj.mapSeq fun _ => (#[] : Array Value))).push (seqObj "tuple" vs.toArray 0)).push (seqObj "list" #[] 0)).get? a = some (seqObj "list" #[] e1) := Heap.get?_push_of_some _ (Heap.get?_push_of_some _ o1)
  have keep : ∀ b o, b ≠ a → s.heap.get? b = some o → (((s.heap.update a (Obj.mapSeq fun _ => (#[] : Array Value))).push (seqObj "tuple" vs.toArray 0)).push (seqObj "list" #[] 0)).get? b = some o := fun b o hb e =>
    Heap.get?_push_of_some _ (Heap.get?_push_of_some _ (by rw [Heap.get?_update_ne _ _ _ _ hb]; exact e))
  show wpAny (model prog w) A _ P E { s with heap := ((s.heap.update a (Obj.mapSeq fun _ => (#[] : Array Value))).push (seqObj "tuple" vs.toArray 0)).push (seqObj "list" #[] 0) }; dsimp only
  by_cases h2 : vs.toArray.size < 2
  · rw [if_pos h2, if_pos h2]; refine wpAny_bind (wpAny_pure ?_)
    rw [StateT.run_pure]; refine wpAny_bind (wpAny_pure ?_)
    have hsnd : (arrOf (SortSt.mk' general' (vs.toArray.zip vs.toArray) #[] 7 none)).map (·.2) = List.toArray ((List.range vs.length).map fun i => vs.getD i Value.none) := by
      show (pairsOf vs).map (·.2) = _
      match vs, h2 with
      | [], _ => simp [pairsOf]
      | [v], _ => simp [pairsOf, List.range_succ]
      | _ :: _ :: _, h2 => simp at h2; omega
    dsimp only
    rw [hsnd]
    refine wpAny_bind (seqEpoch_at o6 rfl (wpAny_bind (listUpdate_at o6 rfl ?_ (Nat.zero_le _) (by rw [List.size_toArray, List.length_map, List.length_range]; omega))))
    simp only [bne_self_eq_false, Bool.false_eq_true, if_false]
    refine wpAny_pure (q (List.range vs.length) (List.Perm.refl _) ?_)
    match vs, h2 with
    | [], _ => exact List.Pairwise.nil
    | [v], _ => exact List.pairwise_singleton _ _
    | _ :: _ :: _, h2 => simp at h2; omega
  · rw [if_neg h2, if_neg h2]
    refine wpAny_bind (kas_kind (T := .type "list") (by omega) (hT _ keep) (by decide) (by decide) ?_)
    have est : SortSt.mk' oneType' (vs.toArray.zip vs.toArray) #[] 7 none = kas_st oneType' (pairsOf vs) (List.toArray (List.range vs.length)) := by
      have e := kas_range (pairsOf vs)
      rw [pairsOf_size] at e
      unfold kas_st
      rw [e]; rfl
    have ask : (kas_sort vs.length).kasWp (kas_ask prog w A oneType' vs) (fun p s' => s' = { s with heap := ((s.heap.update a (Obj.mapSeq fun _ => (#[] : Array Value))).push (seqObj "tuple" vs.toArray 0)).push (seqObj "list" #[] 0) } ∧ Pm vs.length p ∧ Up lt p vs.length) { s with heap := ((s.heap.update a (Obj.mapSeq fun _ => (#[] : Array Value))).push (seqObj "tuple" vs.toArray 0)).push (seqObj "list" #[] 0) } :=
      sort_ok L (hc _ keep) (by omega) fun p pm u => ⟨rfl, pm, u⟩
    rw [kas_ask_eq] at ask
    have run := kas_runs (E := E) (Q := fun _ st' s' => ∃ p : Array Nat, arrOf st' = p.map (kas_item (pairsOf vs)) ∧ failedOf st' = none ∧ s' = { s with heap := ((s.heap.update a (Obj.mapSeq fun _ => (#[] : Array Value))).push (seqObj "tuple" vs.toArray 0)).push (seqObj "list" #[] 0) } ∧ Pm vs.length p ∧ Up lt p vs.length) (by omega) h64 (fun p' st' s' _ a2 a3 a4 => ⟨p', a2, a3, a4⟩) ask
    rw [← est] at run
    refine wpAny_bind (wpAny_mono run ?_ fun _ _ e => e)
    rintro ⟨⟨⟩, st'⟩ s' ⟨p, har, hf, rfl, pm, u⟩
    dsimp only
    have hout : (arrOf st').map (·.2) = List.toArray (p.toList.map fun i => vs.getD i Value.none) := by
      refine Array.toList_inj.mp ?_
      rw [har, Array.map_map, Array.toList_map]
      refine List.map_congr_left fun i _ => ?_
      show (kas_item (pairsOf vs) i).2 = _
      rw [kas_item_eq]
    rw [hout]
    refine wpAny_bind (seqEpoch_at o6 rfl (wpAny_bind (listUpdate_at o6 rfl ?_ (Nat.zero_le _) (by rw [List.size_toArray, List.length_map, Array.length_toList, pm.size]; omega))))
    rw [hf]
    simp only [bne_self_eq_false, Bool.false_eq_true, if_false]
    refine wpAny_pure (q p.toList pm.list ?_)
    rw [List.pairwise_iff_getElem]
    intro i j hi hj hij
    have z := pm.size
    rw [Array.length_toList] at hi hj
    have := u i j hij (by omega)
    have e1 := gd_of (p := p) (i := i) (x := p[i]) (by simp [hi])
    have e2 := gd_of (p := p) (i := j) (x := p[j]) (by simp [hj])
    rw [e1, e2] at this
    simpa using this
end

/-! ## sorted(kinds) -/
def kd (ks : List (Str × List Int)) (i : Nat) : Str × List Int := ks.getD i (Str.ofString "", [])
theorem kd_eq {ks : List (Str × List Int)} {i : Nat} {k : Str × List Int} (h : ks[i]? = some k) : kd ks i = k := by simp [kd, h]
theorem KindsL.at {G : Addr → Prop} {H : Hp} {vs : List V} {ks : List (Str × List Int)} (h : KindsL G H vs ks) {i : Nat} (hi : i < ks.length) : ∃ q t, vs[i]? = some (.ref q) ∧ H q = some (.lst [.str (kd ks i).1, .ref t]) ∧ H t = some (.lst ((kd ks i).2.map V.int)) := by
  have hl := h.length
  obtain ⟨k, q, t, e, ev, h1, h2⟩ := h.get (List.getElem?_eq_getElem (by omega : i < vs.length))
  refine ⟨q, t, ?_, ?_, ?_⟩
  · rw [List.getElem?_eq_getElem (by omega : i < vs.length), ev]
  · rw [kd_eq e]; exact h1
  · rw [kd_eq e]; exact h2
theorem KindsL.pick {G : Addr → Prop} {H : Hp} {vs : List V} {ks : List (Str × List Int)} (h : KindsL G H vs ks) : ∀ {p : List Nat}, (∀ i ∈ p, i < ks.length) → KindsL (fun _ => True) H (p.map fun i => vs.getD i .non) (p.map (kd ks))
  | [], _ => trivial
  | i :: p, hp => by
    obtain ⟨q, t, ev, h1, h2⟩ := h.at (hp i List.mem_cons_self)
    exact ⟨⟨q, t, by simp [ev], h1, h2, trivial, trivial⟩, h.pick fun j hj => hp j (List.mem_cons_of_mem _ hj)⟩
theorem kd_range (ks : List (Str × List Int)) : (List.range ks.length).map (kd ks) = ks := by
  refine List.ext_getElem? fun i => ?_
  rw [List.getElem?_map]
  by_cases h : i < ks.length
  · rw [List.getElem?_range h, List.getElem?_eq_getElem h, Option.map_some, kd_eq (List.getElem?_eq_getElem h)]
  · simp [Nat.le_of_not_lt h]
theorem Vals.pick {xs : List V} {us : List Value} (r : Vals xs us) : ∀ {p : List Nat}, (∀ i ∈ p, i < xs.length) → Vals (p.map fun i => xs.getD i .non) (p.map fun i => us.getD i Value.none)
  | [], _ => .nil
  | i :: p, hp => by
    obtain ⟨u, e, ru⟩ := r.get (List.getElem?_eq_getElem (hp i List.mem_cons_self))
    refine .cons ?_ (r.pick fun j hj => hp j (List.mem_cons_of_mem _ hj))
    have e1 : xs.getD i .non = xs[i]'(hp i List.mem_cons_self) := by simp [hp i List.mem_cons_self]
    have e2 : us.getD i Value.none = u := by simp [e]
    show RelV (xs.getD i .non) (us.getD i Value.none)
    rw [e1, e2]
    exact ru
def ltK (ks : List (Str × List Int)) (i j : Nat) : Bool := decide ((kd ks i).1.cps.toList < (kd ks j).1.cps.toList)
theorem ltK_ok {ks : List (Str × List Int)} (nd : (ks.map (·.1)).Nodup) : LtOk ks.length (ltK ks) := by
  refine ⟨fun h1 h2 => ?_, fun {a b} ha hb hne h => ?_, fun a => ?_⟩
  · exact decide_eq_true (List.lt_trans (of_decide_eq_true h1) (of_decide_eq_true h2))
  · refine decide_eq_true ?_
    have h := of_decide_eq_false h
    have hle : (kd ks b).1.cps.toList ≤ (kd ks a).1.cps.toList := List.not_lt.mp h
    refine Classical.byContradiction fun hn => hne ?_
    have e : (kd ks a).1 = (kd ks b).1 := sle_antisymm (List.not_lt.mp hn) hle
    have e1 := kd_eq (List.getElem?_eq_getElem ha)
    have e2 := kd_eq (List.getElem?_eq_getElem hb)
    rw [e1, e2] at e
    refine (List.getElem?_inj (l := ks.map (·.1)) (by rw [List.length_map]; exact ha) nd).mp ?_
    rw [List.getElem?_map, List.getElem?_map, List.getElem?_eq_getElem ha, List.getElem?_eq_getElem hb, Option.map_some, Option.map_some, e]
  · exact decide_eq_false (List.lt_irrefl _)
section
variable {X : Cx}
/-- sorted(kinds): lists of a text and a list, the texts all different -/
theorem call_sortedK (hu : X.A.units + 64 < cLine) : CallR X (.builtin "sorted") (fun xs H Q => ∃ (a : Addr) (vs : List V) (ks : List (Str × List Int)) (G : Addr → Prop), xs = [V.ref a] ∧ H a = some (.lst vs) ∧ KindsL G H vs ks ∧ (ks.map (·.1)).Nodup ∧ ks.length < 64 ∧
    ∀ p vs' ks', H p = none → KindsL (fun _ => True) H vs' ks' → ks'.Perm ks → sortedS (ks'.map (·.1)) = true → Q (.ref p) (upd H p (.lst vs'))) := by
  intro pins s σ H xs us Q I r h
  obtain ⟨a, vs, ks, G, rfl, hq, kk, nd, h64, q⟩ := h
  obtain ⟨u, rfl, ru⟩ := vals1 r
  cases ru
  obtain ⟨z, its, n, rv, hl, ea⟩ := I.lstM hq
  have hlk := kk.length
  have big : 64 ≤ sizeLine := by decide
  have row : ∀ i, i < its.length → ∃ q, its.getD i Value.none = .ref q ∧ ∃ (ii : List Value) (m : Nat) (tk : Tok), s.heap.get? q = some (seqObj "list" ii.toArray m) ∧ ii.toArray[0]? = some (.str (kd ks i).1 tk) := by
    intro i hi
    obtain ⟨qa, t, ev, h1, h2⟩ := kk.at (i := i) (by omega)
    obtain ⟨w, ew, rw'⟩ := rv.get ev
    cases rw'
    obtain ⟨_, ii, m, ri, _, ei⟩ := I.lstM h1
    obtain ⟨w1, w2, rfl, ⟨tk, rfl⟩, _⟩ := ri.two
    exact ⟨qa, by simp [ew], _, m, tk, ei, rfl⟩
  refine Calls.call_function_entry kind_sorted plain_sorted entry_sorted (args_sorted1 _) (show wpAny _ _ (Builtin.«sorted» _) _ _ _ from ?_)
  unfold Builtin.«sorted»
  refine wpAny_bind (m := checkCount "sorted" 1 1 _) (wpAny_pure (wpAny_bind (collect_list (vs := its) ⟨_, ea, rfl, n, rfl⟩ (wpAny_bind (wpAny_newList ?_ (by omega))) (by omega))))
  have hsz : ((s.heap.push (seqObj "list" #[] 0)).update s.heap.objs.size (Obj.mapSeq (· ++ its.toArray))).objs.size = s.heap.objs.size + 1 := (Heap.size_update ..).trans (size_push' ..)
  have hoL : (((s.heap.push (seqObj "list" #[] 0)).update s.heap.objs.size (Obj.mapSeq (· ++ its.toArray))).push (seqObj "list" its.toArray 0)).get? (s.heap.objs.size + 1) = some (seqObj "list" its.toArray 0) := by rw [← hsz]; exact Heap.get?_push_size _ rfl
  have hsz0 := hsz
  have old : ∀ b o, s.heap.get? b = some o → b ≠ s.heap.objs.size + 1 ∧ (((s.heap.push (seqObj "list" #[] 0)).update s.heap.objs.size (Obj.mapSeq (· ++ its.toArray))).push (seqObj "list" its.toArray 0)).get? b = some o := fun b o e => by
    have lt := Heap.lt_size e
    refine ⟨Nat.ne_of_lt (Nat.lt_succ_of_lt lt), Heap.get?_push_of_some _ ?_⟩
    rw [Heap.get?_update_ne _ _ _ _ (Nat.ne_of_lt lt)]
    exact Heap.get?_push_of_some _ e
  show wpAny _ _ _ _ _ { s with heap := ((s.heap.push (seqObj "list" #[] 0)).update s.heap.objs.size (Obj.mapSeq (· ++ its.toArray))).push (seqObj "list" its.toArray 0) }; rw [hsz]
  have LO : LtOk its.length (ltK ks) := by rw [show its.length = ks.length by omega]; exact ltK_ok nd
  refine wpAny_bind (wpAny_holding (wpAny_call_entry slot_list_sort ⟨_, hoL, rfl⟩ entry_list_sort (sort_by hoL LO (by omega) (fun h' hk v hv => ?_) (fun h' hk i j C hi hj hij hC => ?_) fun p pp ps => ⟨_, rfl, ?_⟩) (args_list_sort _)))
  · obtain ⟨i, hi, ei⟩ := List.getElem_of_mem hv
    obtain ⟨qa, e1, ii, m, tk, e2, e3⟩ := row i hi
    have e4 : v = .ref qa := by rw [← e1, ← ei]; simp [hi]
    subst e4
    exact fun A' Q' E' s' k' q' => wpAny_typeOf ⟨_, k' _ _ (hk _ _ (old _ _ e2).1 (old _ _ e2).2), rfl⟩ q'
  · obtain ⟨qa, e1, ii, m, tk, e2, e3⟩ := row i hi
    obtain ⟨qb, f1, jj, m', tk', f2, f3⟩ := row j hj
    rw [e1, f1]
    refine key_lt0 (hk _ _ (old _ _ e2).1 (old _ _ e2).2) (hk _ _ (old _ _ f2).1 (old _ _ f2).2) e3 f3 ?_ ?_ hC
    · rw [beq_eq_false_iff_ne]
      intro e
      have z : ltK ks i j = false := decide_eq_false (by rw [e]; exact List.lt_irrefl _)
      have z2 := LO.tot hi hj hij z
      exact absurd (of_decide_eq_true z2) (by rw [e]; exact List.lt_irrefl _)
    · show X.A.units + 1 + 1 < cLine
      omega
  · have hpl : p.length = its.length := by rw [pp.length_eq, List.length_range]
    have hin : ∀ i ∈ p, i < its.length := fun i hi => List.mem_range.mp (pp.mem_iff.mp hi)
    refine wpAny_pure ⟨_, rfl, ?_⟩
    refine sorted_fin I (ys := p.map fun i => vs.getD i .non) (by rw [List.length_map]; omega) ?_ ?_
    · rw [List.toList_toArray]
      exact rv.pick fun i hi => by have := hin i hi; omega
    · refine q _ _ (p.map (kd ks)) (I.hok.fresh (Nat.le_succ _)) (kk.pick fun i hi => by have := hin i hi; omega) ?_ ?_
      · have e := pp.map (kd ks)
        rwa [show its.length = ks.length by omega, kd_range] at e
      · refine sortedS_of_pairwise _ ?_
        rw [List.map_map, List.pairwise_map]
        refine ps.imp fun {i j} h => ?_
        have h : (kd ks i).1.cps.toList < (kd ks j).1.cps.toList := of_decide_eq_true h
        show ltCps (kd ks j).1.cps.toList (kd ks i).1.cps.toList = false
        rw [ltCps_eq]
        exact decide_eq_false fun z => List.lt_irrefl _ (List.lt_trans h z)
end
/-! ## a module's own tuple of whole numbers -/
def intsChk : List Value → List Int → Bool
  | [], [] => true
  | .int i _ :: r, k :: s => decide (i = k) && intsChk r s
  | _, _ => false
theorem ints_chk : ∀ {us : List Value} {ns : List Int}, intsChk us ns = true → Vals (ns.map V.int) us
  | [], [], _ => .nil
  | .int i t :: r, k :: s, h => by
    simp only [intsChk, Bool.and_eq_true, decide_eq_true_eq] at h
    obtain ⟨rfl, h⟩ := h
    exact .cons ⟨t, rfl⟩ (ints_chk h)
  | [], _ :: _, h => by cases h
def tupChk (K : PySem.W.Frag) (a : Addr) (ns : List Int) : Bool := match K.lookup a with
  | some o => (o.cls == .type "tuple") && match o.data with
    | .seq its _ => intsChk its.toList ns && decide (its.size ≤ 1000)
    | _ => false
  | none => false
theorem tup_chk {K : PySem.W.Frag} {a : Addr} {ns : List Int} (h : tupChk K a ns = true) (H : Hp) : SqT K H a (ns.map V.int) := by
  unfold tupChk at h
  split at h
  · rename_i o e
    rw [Bool.and_eq_true] at h
    obtain ⟨hc, h⟩ := h
    split at h
    · rename_i its n ed
      rw [Bool.and_eq_true] at h
      exact .inr ⟨o, its, n, e, eq_of_beq hc, ed, big (of_decide_eq_true h.2), ints_chk h.1⟩
    · cases h
  · cases h
end L2

set_option maxHeartbeats 4000000
namespace K09
open PySem L2 PyProof.Rows
def top (i : Nat) : Stmt := PySem.Challenge.pw_combstrip_k09_shape_steps.main.body.getD i (.Pass ⟨0, 0, 0, 0⟩)
abbrev s__wall : Stmt := top 0
abbrev s_shape_steps : Stmt := top 25
abbrev s_teeth_worth : Stmt := top 26
abbrev s_is_name : Stmt := top 28
abbrev s_is_small_letter : Stmt := top 29
abbrev s_are_teeth : Stmt := top 30
abbrev s_Book___init__ : Stmt := inClass (top 32) 0
abbrev s_Book_put : Stmt := inClass (top 32) 1
abbrev s_Book_drop : Stmt := inClass (top 32) 2
abbrev s_Book_add_tooth : Stmt := inClass (top 32) 3
abbrev s_Book_take_off : Stmt := inClass (top 32) 4
abbrev s_Book_undo : Stmt := inClass (top 32) 5
abbrev s_Book_deeds : Stmt := inClass (top 32) 6
abbrev s_Book_names : Stmt := inClass (top 32) 7
abbrev s_Book_teeth : Stmt := inClass (top 32) 8
abbrev s_Book_check_comb : Stmt := inClass (top 32) 9
abbrev s_Book_set_comb : Stmt := inClass (top 32) 10
abbrev s_Book_do_deed : Stmt := inClass (top 32) 11
abbrev s_at : Stmt := top 34
abbrev s_mixed : Stmt := top 35
abbrev s_word : Stmt := top 36
abbrev s_spare : Stmt := top 37
abbrev s_menu : Stmt := top 38
abbrev s_combs : Stmt := top 39
abbrev s_raw : Stmt := top 40
abbrev s_book : Stmt := top 41
abbrev s_after : Stmt := top 42
abbrev s_goes : Stmt := top 43
abbrev s_number : Stmt := top 44
abbrev s_ahead : Stmt := top 45
abbrev s_kind : Stmt := top 46
abbrev s_refused : Stmt := top 47
abbrev s_whole : Stmt := top 48
abbrev s_steps : Stmt := top 49
abbrev s_law : Stmt := top 50
section
variable {P : Program} {w : World} {K : PySem.W.Frag} {mg : Str → Option Value} {base : Heap}
def sp_at (K : PySem.W.Frag) : Sp := fun vs H Q _ => ∃ (a : Addr) (ns : List Int) (k : Int), vs = [.ref a, .int k] ∧ SqL K H a (ns.map V.int) ∧ 0 ≤ k ∧ Q (.int (ns.getD k.toNat 0)) H
theorem sc_at : FnScope ["_law_script", "_law_k"] ["_law_script", "_law_k"] (defScope s_at) := ⟨rfl, rfl, rfl, by decide +kernel, rfl, by decide +kernel, by decide +kernel⟩
theorem ok_at (D : DefAt K mg "_law_at" s_at) (T : Bn mg) : Callee P w K mg base "_law_at" 1 ["_law_script", "_law_k"] (sp_at K) := by
  refine D.callee sc_at (fun _ _ _ _ _ _ us hl => match us, hl with | [_, _], _ => rfl) (fun vs H Q E h => ?_) (fun f cdv A outer s H vs Q E hr h => ?_)
  · obtain ⟨a, ns, k, rfl, _⟩ := h
    rfl
  · obtain ⟨a, ns, k, rfl, hS, h0, q⟩ := h
    have S := sc_at
    refine ⟨_, pss_cons (ps_if (pt_cmpR op_lt (pv 1) (pe_callB call_len_seq rfl T.n_len PySem.boot_len (pa_cons (pv 0) pa_nil)) (nomark _))
      (pss_one (ps_ret (pe_ix ix_list (pv 0) (pv 1) (fun _ _ => rfl))))
      (pss_nil))
    (pss_one (ps_ret (pe_int))), ?_⟩
    refine ⟨_, rfl, _, rfl, _, _, rfl, .inl hS, _, _, rfl, rfl, _, rfl, ?_⟩
    refine ite2 (fun hc => ?_) (fun hc => ?_)
    · have hc := of_decide_eq_true hc
      rw [List.length_map] at hc
      exact ⟨_, rfl, _, rfl, _, _, _, _, rfl, rfl, hS, at_get h0 hc, q⟩
    · have hc : ¬ k < (ns.length : Int) := fun z => hc (decide_eq_true (by rw [List.length_map]; exact z))
      rw [getD_big hc] at q
      exact q
def mixed (c k : Int) : Int := ((c + 7919 * k + 1) * 48271 % 2147483647 + 104729 * k + 3) * 69621 % 2147483647
def sp_mixed : Sp := fun vs H Q _ => ∃ (c k : Int), vs = [.int c, .int k] ∧ Q (.int (mixed c k)) H
theorem sc_mixed : FnScope ["_law_cell", "_law_k", "_law_once"] ["_law_cell", "_law_k"] (defScope s_mixed) := ⟨rfl, rfl, rfl, by decide +kernel, rfl, by decide +kernel, by decide +kernel⟩
theorem ok_mixed (D : DefAt K mg "_law_mixed" s_mixed) (T : Bn mg) : Callee P w K mg base "_law_mixed" 1 ["_law_cell", "_law_k"] sp_mixed := by
  refine D.callee sc_mixed (fun _ _ _ _ _ _ us hl => match us, hl with | [_, _], _ => rfl) (fun vs H Q E h => ?_) (fun f cdv A outer s H vs Q E hr h => ?_)
  · obtain ⟨c, k, rfl, _⟩ := h
    rfl
  · obtain ⟨c, k, rfl, q⟩ := h
    have S := sc_mixed
    refine ⟨_, pss_cons (ps_set (i := 2) S.nd rfl (Or.inl rfl) (pe_op op_mod (pe_op op_mul (pe_op op_add (pe_op op_add (pv 0) (pe_op op_mul (pe_int) (pv 1))) (pe_int)) (pe_int)) (pe_int)))
    (pss_one (ps_ret (pe_op op_mod (pe_op op_mul (pe_op op_add (pe_op op_add (pv 2) (pe_op op_mul (pe_int) (pv 1))) (pe_int)) (pe_int)) (pe_int)))), ?_⟩
    refine ⟨_, rfl, _, rfl, _, _, rfl, rfl, .inl ⟨by decide, by decide⟩, _, _, rfl, rfl, _, _, rfl, rfl, _, _, rfl, rfl, .inr ⟨by decide, by decide⟩, _, _, rfl, rfl, by show (0 : Int) < 2147483647; decide, ?_⟩
    exact ⟨_, rfl, _, rfl, _, _, rfl, rfl, .inl ⟨by decide, by decide⟩, _, _, rfl, rfl, _, _, rfl, rfl, _, _, rfl, rfl, .inr ⟨by decide, by decide⟩, _, _, rfl, rfl, by show (0 : Int) < 2147483647; decide, q⟩
def sp_whole : Sp := fun vs H Q _ => ∃ (i : Int), vs = [.int i] ∧ Q (.bl true) H
theorem sc_whole : FnScope ["_law_found"] ["_law_found"] (defScope s_whole) := ⟨rfl, rfl, rfl, by decide +kernel, rfl, by decide +kernel, by decide +kernel⟩
theorem ok_whole (D : DefAt K mg "_law_whole" s_whole) (T : Bn mg) : Callee P w K mg base "_law_whole" 1 ["_law_found"] sp_whole := by
  refine D.callee sc_whole (fun _ _ _ _ _ _ us hl => match us, hl with | [_], _ => rfl) (fun vs H Q E h => ?_) (fun f cdv A outer s H vs Q E hr h => ?_)
  · obtain ⟨i, rfl, _⟩ := h
    rfl
  · obtain ⟨i, rfl, q⟩ := h
    have S := sc_whole
    refine ⟨_, pss_one (ps_ret (pe_and (pe_callB (call_isT "int") rfl T.n_isinstance boot_isinstance (pa_cons (pv 0) (pa_cons (pe_bltn (v := .ty "int") rfl T.n_int boot_int rfl) pa_nil))) (pe_one (pe_not (pe_callB (call_isT "bool") rfl T.n_isinstance boot_isinstance (pa_cons (pv 0) (pa_cons (pe_bltn (v := .ty "bool") rfl T.n_bool boot_bool rfl) pa_nil))))))), ?_⟩
    refine ⟨_, rfl, _, _, true, rfl, .int i, rfl, _, rfl, ?_⟩
    refine iteT ?_
    exact ⟨_, rfl, _, _, false, rfl, .int i, rfl, _, rfl, q⟩
def sp_word : Sp := fun vs H Q _ => ∃ (c b : Int), vs = [.int c, .int b] ∧ (b = 26 ∨ b = 2) ∧ ∀ x : Str, isName x = true → Q (.str x) H
theorem sc_word : FnScope ["_law_cell", "_law_base", "_law_word_here", "_law_rest", "_law_k"] ["_law_cell", "_law_base"] (defScope s_word) := ⟨rfl, rfl, rfl, by decide +kernel, rfl, by decide +kernel, by decide +kernel⟩
theorem ok_word (D : DefAt K mg "_law_word" s_word) (T : Bn mg) : Callee P w K mg base "_law_word" 1 ["_law_cell", "_law_base"] sp_word := by
  refine D.callee sc_word (fun _ _ _ _ _ _ us hl => match us, hl with | [_, _], _ => rfl) (fun vs H Q E h => ?_) (fun f cdv A outer s H vs Q E hr h => ?_)
  · obtain ⟨c, b, rfl, _⟩ := h
    rfl
  · obtain ⟨c, b, rfl, hb, q⟩ := h
    have S := sc_word
    have b0 : 0 < b := by omega
    have b1 : b ≤ 26 := by omega
    have m0 := Int.emod_nonneg c (show (6 : Int) ≠ 0 by decide)
    have m1 := Int.emod_lt_of_pos c p6
    refine ⟨_, pss_cons (ps_set (i := 2) S.nd rfl (Or.inl rfl) (pe_str))
    (pss_cons (ps_set (i := 3) S.nd rfl (Or.inl rfl) (pe_op op_fdiv (pv 0) (pe_int)))
    (pss_cons (ps_for PassesOwn.never rfl (pi_range1 rfl T.n_range (pa_cons (pe_op op_add (pe_int) (pe_op op_mod (pv 0) (pe_int))) pa_nil)) (pg_name (i := 4) S.nd rfl (Or.inl rfl))
      (pss_cons (ps_set (i := 2) S.nd rfl (Or.inl rfl) (pe_op op_add_str (pv 2) (pe_ix ix_str (pe_str) (pe_op op_mod (pv 3) (pv 1)) (fun _ _ => rfl))))
      (pss_one (ps_set (i := 3) S.nd rfl (Or.inl rfl) (pe_op op_fdiv (pv 3) (pv 1))))))
    (pss_one (ps_ret (pv 2))))), ?_⟩
    refine ⟨_, rfl, _, _, rfl, rfl, ⟨p6, by decide⟩, ?_⟩
    refine ⟨_, rfl, _, _, rfl, rfl, p6, _, _, rfl, rfl, _, rfl, ?_, ?_, ?_⟩
    · show -(2 ^ 62) ≤ 1 + c % 6
      omega
    · show 1 + c % 6 < 2 ^ 62
      omega
    refine for_g (gives_range 0 (1 + c % 6).toNat) (fun i σ H' => H' = H ∧ ∃ (x : Str) (r : Int) (x4 : Option V), σ = [some (.int c), some (.int b), some (.str x), some (.int r), x4] ∧ x.length = i ∧ x.cps.toList.all small = true) ⟨rfl, Str.ofString "", _, _, rfl, by decide, by decide⟩ (fun _ _ _ _ _ => trivial) ?_ ?_
    · rintro i x σ H2 hx ⟨rfl, y, r, x4, rfl, hl, ha⟩
      obtain ⟨hi, rfl⟩ := range_int hx
      obtain ⟨ch, hch, hs⟩ := abc_at (k := r % b) (Int.emod_nonneg _ (by omega)) (by have := Int.emod_lt_of_pos r b0; omega)
      refine ⟨_, rfl, _, rfl, _, rfl, _, _, rfl, rfl, b0, _, _, _, rfl, rfl, ?_, hch, _, _, rfl, rfl, ?_, ?_⟩
      · show abc.length ≤ sizeLine
        rw [abc_len]; decide
      · rw [len_one]
        exact big (by omega)
      refine ⟨_, rfl, _, rfl, _, _, rfl, rfl, ⟨b0, by omega⟩, ?_⟩
      refine ⟨rfl, _, _, _, rfl, by rw [len_app, hl, len_one], ?_⟩
      rw [app_list, List.all_append, ha]
      show (true && [ch].all small) = true
      simp [hs]
    · rintro σ H2 ⟨rfl, y, r, x4, rfl, hl, ha⟩
      rw [List.length_map, List.length_range] at hl
      exact ⟨_, rfl, q y (name_of (by omega) (by omega) ha)⟩
def sp_spare (K : PySem.W.Frag) : Sp := fun vs H Q _ => ∃ (x : Str) (u : Addr) (us : List Str), vs = [.str x, .ref u] ∧ isName x = true ∧ SqL K H u (us.map V.str) ∧ us.length ≤ 25 ∧ ∀ y H', Same H H' → isName y = true → y ∉ us → Q (.str y) H'
def notUsed (us : List Str) (v : V) : Bool := match v with
  | .str y => !decide (y ∈ us)
  | _ => false
theorem sc_spare : FnScope ["_law_word_here", "_law_used"] ["_law_word_here", "_law_used"] (defScope s_spare) := ⟨rfl, rfl, rfl, by decide +kernel, rfl, by decide +kernel, by decide +kernel⟩
theorem ok_spare (D : DefAt K mg "_law_spare" s_spare) (T : Bn mg) : Callee P w K mg base "_law_spare" 1 ["_law_word_here", "_law_used"] (sp_spare K) := by
  refine D.callee sc_spare (fun _ _ _ _ _ _ us hl => match us, hl with | [_, _], _ => rfl) (fun vs H Q E h => ?_) (fun f cdv A outer s H vs Q E hr h => ?_)
  · obtain ⟨x, u, us, rfl, _⟩ := h
    rfl
  · obtain ⟨x, u, us, rfl, hx, hS, hl, q⟩ := h
    have S := sc_spare
    refine ⟨_, pss_cons (ps_if (pt_cmpR op_notIn_seq (pv 0) (pv 1) (by with_unfolding_all rfl))
      (pss_one (ps_ret (pv 0)))
      (pss_nil))
    (pss_one (ps_ret (pe_ix ix_list (pe_comp (own := ["_law_one"]) (caps := [(1, "_law_used")]) rfl ⟨rfl, rfl, rfl, rfl, ⟨⟨rfl, rfl, .inl rfl⟩, trivial⟩⟩ (pi_str (pe_str)) (fun _ _ _ _ _ _ => pg_name (i := 0) (nd_comp (by decide +kernel)) rfl (Or.inl rfl)) (fun _ _ _ _ _ _ => pts_one (pt_cmpR (op_notIn_seq' K rfl) (pv 0) (pv 1) (by with_unfolding_all rfl))) (fun _ _ _ _ _ _ => pv 0)) (pe_int) (fun _ _ => rfl)))), ?_⟩
    refine ⟨_, rfl, _, rfl, _, _, rfl, .inl hS, rfl, flat_strs us, _, rfl, ?_⟩
    rw [if_pos rfl, in_strs]
    refine ite2 (fun hc => ?_) (fun hc => ?_)
    · have h0 : x ∉ us := by simpa using hc
      exact ⟨_, rfl, q x H (Same.refl H) hx h0⟩
    · refine ⟨_, rfl, fun D hD => ?_⟩
      refine comp_s (capv := [some (.ref u)]) (L := abc.cps.toList.map sgn) (by rfl) (gives_str abc) (by rw [List.length_map, txt_len, abc_len]; decide) hD ?_ (notUsed us) (fun v => v) ?_ ?_ ?_
      · exact fun _ _ => trivial
      · intro v hv H' R s' h
        obtain ⟨c, hc, rfl⟩ := List.mem_map.mp hv
        refine ⟨_, rfl, _, rfl, _, _, rfl, .inl (s'.seq hS), rfl, flat_strs us, _, rfl, ?_⟩
        rw [if_pos rfl]
        show R (!inV (V.str ⟨#[c]⟩) (us.map V.str)) H'
        rw [in_strs]
        exact h H' (Same.refl _)
      · intro v hv hp H' R s' h
        exact ⟨_, rfl, h H' (Same.refl _)⟩
      · intro H' s' e
        obtain ⟨c, hc, hn⟩ := spare_some us hl
        have hm : sgn c ∈ ((abc.cps.toList.map sgn).filter (notUsed us)).map fun v => v := by
          rw [List.map_id']
          exact List.mem_filter.mpr ⟨List.mem_map.mpr ⟨c, hc, rfl⟩, by show (!decide ((⟨#[c]⟩ : Str) ∈ us)) = true; simp [hn]⟩
        have hall : ∀ v ∈ ((abc.cps.toList.map sgn).filter (notUsed us)).map fun v => v, ∃ d, v = sgn d ∧ small d = true ∧ (⟨#[d]⟩ : Str) ∉ us := fun v hv => by
          rw [List.map_id'] at hv
          obtain ⟨h1, h2⟩ := List.mem_filter.mp hv
          obtain ⟨d, hd, rfl⟩ := List.mem_map.mp h1
          have h2 : (!decide ((⟨#[d]⟩ : Str) ∈ us)) = true := h2
          exact ⟨d, rfl, abc_small hd, by simpa using h2⟩
        generalize (((abc.cps.toList.map sgn).filter (notUsed us)).map fun v => v) = l at e hm hall
        cases l with
        | nil => cases hm
        | cons v l =>
          obtain ⟨d, rfl, hs, hd⟩ := hall v List.mem_cons_self
          exact ⟨_, _, _, _, rfl, rfl, SqL.of e, (show atI (sgn d :: l) ((0 : Nat) : Int) = some (sgn d) from atI_nat rfl), q _ H' s' (name_one hs) hd⟩
/-! ### the books that are rich in edges -/
def Rows (H : Hp) : List V → List (List Int) → Prop
  | [], [] => True
  | v :: vs, r :: rs => (∃ p, v = .ref p ∧ H p = some (.tup (r.map V.int))) ∧ Rows H vs rs
  | _, _ => False
theorem Rows.same {H H' : Hp} (s : Same H H') : ∀ {vs : List V} {rs : List (List Int)}, Rows H vs rs → Rows H' vs rs
  | [], [], _ => trivial
  | _ :: _, _ :: _, ⟨⟨p, e, h⟩, r⟩ => ⟨⟨p, e, s _ _ h⟩, Rows.same s r⟩
  | [], _ :: _, h => h.elim
  | _ :: _, [], h => h.elim
theorem Rows.snoc {H : Hp} {p : Addr} {r : List Int} (h : H p = some (.tup (r.map V.int))) : ∀ {vs : List V} {rs : List (List Int)}, Rows H vs rs → Rows H (vs ++ [.ref p]) (rs ++ [r])
  | [], [], _ => ⟨⟨p, rfl, h⟩, trivial⟩
  | _ :: _, _ :: _, ⟨a, b⟩ => ⟨a, Rows.snoc h b⟩
  | [], _ :: _, x => x.elim
  | _ :: _, [], x => x.elim
theorem Rows.get {H : Hp} : ∀ {vs : List V} {rs : List (List Int)} {i : Nat} {r : List Int}, Rows H vs rs → rs[i]? = some r → ∃ p, vs[i]? = some (.ref p) ∧ H p = some (.tup (r.map V.int))
  | [], [], _, _, _, e => by simp at e
  | _ :: _, _ :: _, 0, _, ⟨⟨p, e, h⟩, _⟩, z => by
    simp at z
    subst z
    exact ⟨p, by rw [e]; rfl, h⟩
  | _ :: _, _ :: _, i + 1, _, ⟨_, b⟩, z => Rows.get (i := i) b (by simpa using z)
  | [], _ :: _, _, _, x, _ => x.elim
  | _ :: _, [], _, _, x, _ => x.elim
structure Mr (H0 H : Hp) (vs : List V) (rs : List (List Int)) : Prop where
  same : Same H0 H
  rows : Rows H vs rs
theorem Mr.add {H0 H : Hp} {vs : List V} {rs : List (List Int)} (m : Mr H0 H vs rs) (r : List Int) {p : Addr} (n : H p = none) : Mr H0 (upd H p (.tup (r.map V.int))) (vs ++ [.ref p]) (rs ++ [r]) :=
  ⟨m.same.put (m.same.free n), Rows.snoc upd_same (m.rows.same (Same.new n))⟩
theorem Mr.lstE {H0 H : Hp} {vs : List V} {rs : List (List Int)} (m : Mr H0 H vs rs) {o : HO} {p : Addr} (n : H p = none) : Mr H0 (upd H p o) vs rs ∧ upd H p o p = some o := ⟨⟨m.same.put (m.same.free n), m.rows.same (Same.new n)⟩, upd_same⟩
theorem Mr.lst {H0 H : Hp} {vs : List V} {rs : List (List Int)} (m : Mr H0 H vs rs) {o : HO} {p : Addr} (n : H p = none) : Mr H0 (upd H p o) vs rs := ⟨m.same.put (m.same.free n), m.rows.same (Same.new n)⟩
def menuRows : List (List Int) := [[45], [131, 133], [193, 65], [71, 161, 99], [77, 131, 133], [13, 49], [153, 111, 131], [197, 131, 173, 53], [83, 125, 137, 173, 243], [185, 193, 215, 87, 243], [5], [175, 209, 67, 129, 21, 229, 49, 83], [203, 243, 129, 167, 153, 223, 207, 243], [197, 147, 131], [197, 131, 177], [31, 255], [3, 3], [119, 225, 131, 109]]
def MenuRow (xs : List Int) : Prop := (1 ≤ xs.length ∧ xs.length ≤ 8) ∧ ∀ x ∈ xs, x % 2 = 1 ∧ 0 ≤ x ∧ x < 256
theorem menu_ok {i : Nat} {r : List Int} (h : menuRows[i]? = some r) : MenuRow r := by
  have all : ∀ r ∈ menuRows, (1 ≤ r.length ∧ r.length ≤ 8) ∧ ∀ x ∈ r, x % 2 = 1 ∧ 0 ≤ x ∧ x < 256 := by decide
  exact all r (List.mem_of_getElem? h)
def sp_menu : Sp := fun vs H Q _ => ∃ (k : Int), vs = [.int k] ∧ ∀ p xs H', Same H H' → H' p = some (.tup (xs.map V.int)) → MenuRow xs → Q (.ref p) H'
theorem sc_menu : FnScope ["_law_k", "_law_rows"] ["_law_k"] (defScope s_menu) := ⟨rfl, rfl, rfl, by decide +kernel, rfl, by decide +kernel, by decide +kernel⟩
theorem ok_menu (D : DefAt K mg "_law_menu" s_menu) (T : Bn mg) : Callee P w K mg base "_law_menu" 1 ["_law_k"] sp_menu := by
  refine D.calleeQ sc_menu (fun _ _ _ _ _ _ us hl => match us, hl with | [_], _ => rfl) (fun vs H Q E h => ?_) (fun f cdv A outer s H vs Q E hr h => ?_)
  · obtain ⟨k, rfl, _⟩ := h
    rfl
  · obtain ⟨k, rfl, q⟩ := h
    have S := sc_menu
    refine ⟨_, qss_cons (qs_set (i := 1) S.nd rfl (Or.inl rfl) (qe_lst (qa_cons (qe_tup (qa_cons (qe (pe_int)) (qa_nil))) (qa_cons (qe_tup (qa_cons (qe (pe_int)) (qa_cons (qe (pe_int)) (qa_nil)))) (qa_cons (qe_tup (qa_cons (qe (pe_int)) (qa_cons (qe (pe_int)) (qa_nil)))) (qa_cons (qe_tup (qa_cons (qe (pe_int)) (qa_cons (qe (pe_int)) (qa_cons (qe (pe_int)) (qa_nil))))) (qa_cons (qe_tup (qa_cons (qe (pe_int)) (qa_cons (qe (pe_int)) (qa_cons (qe (pe_int)) (qa_nil))))) (qa_cons (qe_tup (qa_cons (qe (pe_int)) (qa_cons (qe (pe_int)) (qa_nil)))) (qa_cons (qe_tup (qa_cons (qe (pe_int)) (qa_cons (qe (pe_int)) (qa_cons (qe (pe_int)) (qa_nil))))) (qa_nil))))))))))
    (qss_cons (qs_set (i := 1) S.nd rfl (Or.inl rfl) (qe_op op_cat (qe (pv 1)) (qe_lst (qa_cons (qe_tup (qa_cons (qe (pe_int)) (qa_cons (qe (pe_int)) (qa_cons (qe (pe_int)) (qa_cons (qe (pe_int)) (qa_nil)))))) (qa_cons (qe_tup (qa_cons (qe (pe_int)) (qa_cons (qe (pe_int)) (qa_cons (qe (pe_int)) (qa_cons (qe (pe_int)) (qa_cons (qe (pe_int)) (qa_nil))))))) (qa_cons (qe_tup (qa_cons (qe (pe_int)) (qa_cons (qe (pe_int)) (qa_cons (qe (pe_int)) (qa_cons (qe (pe_int)) (qa_cons (qe (pe_int)) (qa_nil))))))) (qa_cons (qe_tup (qa_cons (qe (pe_int)) (qa_nil))) (qa_nil))))))))
    (qss_cons (qs_set (i := 1) S.nd rfl (Or.inl rfl) (qe_op op_cat (qe (pv 1)) (qe_lst (qa_cons (qe_tup (qa_cons (qe (pe_int)) (qa_cons (qe (pe_int)) (qa_cons (qe (pe_int)) (qa_cons (qe (pe_int)) (qa_cons (qe (pe_int)) (qa_cons (qe (pe_int)) (qa_cons (qe (pe_int)) (qa_cons (qe (pe_int)) (qa_nil)))))))))) (qa_cons (qe_tup (qa_cons (qe (pe_int)) (qa_cons (qe (pe_int)) (qa_cons (qe (pe_int)) (qa_cons (qe (pe_int)) (qa_cons (qe (pe_int)) (qa_cons (qe (pe_int)) (qa_cons (qe (pe_int)) (qa_cons (qe (pe_int)) (qa_nil)))))))))) (qa_nil))))))
    (qss_cons (qs_set (i := 1) S.nd rfl (Or.inl rfl) (qe_op op_cat (qe (pv 1)) (qe_lst (qa_cons (qe_tup (qa_cons (qe (pe_int)) (qa_cons (qe (pe_int)) (qa_cons (qe (pe_int)) (qa_nil))))) (qa_cons (qe_tup (qa_cons (qe (pe_int)) (qa_cons (qe (pe_int)) (qa_cons (qe (pe_int)) (qa_nil))))) (qa_cons (qe_tup (qa_cons (qe (pe_int)) (qa_cons (qe (pe_int)) (qa_nil)))) (qa_cons (qe_tup (qa_cons (qe (pe_int)) (qa_cons (qe (pe_int)) (qa_nil)))) (qa_cons (qe_tup (qa_cons (qe (pe_int)) (qa_cons (qe (pe_int)) (qa_cons (qe (pe_int)) (qa_cons (qe (pe_int)) (qa_nil)))))) (qa_nil)))))))))
    (qss_one (qs_ret (qe (pe_ix ix_list (pv 1) (pe_op op_mod (pv 0) (pe_callB call_len_seq rfl T.n_len PySem.boot_len (pa_cons (pv 1) pa_nil))) (fun _ _ => rfl)))))))), ?_⟩
    have M : Mr H H [] [] := ⟨Same.refl H, trivial⟩
    refine ⟨bigr rfl, fun a1 na => ?_⟩
    replace M := M.add [45] na
    clear na
    refine ⟨bigr rfl, fun a2 na => ?_⟩
    replace M := M.add [131, 133] na
    clear na
    refine ⟨bigr rfl, fun a3 na => ?_⟩
    replace M := M.add [193, 65] na
    clear na
    refine ⟨bigr rfl, fun a4 na => ?_⟩
    replace M := M.add [71, 161, 99] na
    clear na
    refine ⟨bigr rfl, fun a5 na => ?_⟩
    replace M := M.add [77, 131, 133] na
    clear na
    refine ⟨bigr rfl, fun a6 na => ?_⟩
    replace M := M.add [13, 49] na
    clear na
    refine ⟨bigr rfl, fun a7 na => ?_⟩
    replace M := M.add [153, 111, 131] na
    clear na
    refine ⟨bigr rfl, fun b0 nb => ?_⟩
    obtain ⟨M, e⟩ := M.lstE (o := .lst [V.ref a1, V.ref a2, V.ref a3, V.ref a4, V.ref a5, V.ref a6, V.ref a7]) nb
    clear nb
    refine ⟨_, rfl, ?_⟩
    refine ⟨bigr rfl, fun a8 na => ?_⟩
    replace M := M.add [197, 131, 173, 53] na
    replace e := keepL (o := .tup (([197, 131, 173, 53] : List Int).map V.int)) e na
    clear na
    refine ⟨bigr rfl, fun a9 na => ?_⟩
    replace M := M.add [83, 125, 137, 173, 243] na
    replace e := keepL (o := .tup (([83, 125, 137, 173, 243] : List Int).map V.int)) e na
    clear na
    refine ⟨bigr rfl, fun a10 na => ?_⟩
    replace M := M.add [185, 193, 215, 87, 243] na
    replace e := keepL (o := .tup (([185, 193, 215, 87, 243] : List Int).map V.int)) e na
    clear na
    refine ⟨bigr rfl, fun a11 na => ?_⟩
    replace M := M.add [5] na
    replace e := keepL (o := .tup (([5] : List Int).map V.int)) e na
    clear na
    refine ⟨bigr rfl, fun b1 nb => ?_⟩
    obtain ⟨M, e2⟩ := M.lstE (o := .lst [V.ref a8, V.ref a9, V.ref a10, V.ref a11]) nb
    replace e := keepL (o := .lst [V.ref a8, V.ref a9, V.ref a10, V.ref a11]) e nb
    clear nb
    refine ⟨_, _, _, _, rfl, rfl, e, e2, bigr rfl, fun c1 nc => ?_⟩
    obtain ⟨M, e⟩ := M.lstE (o := .lst [V.ref a1, V.ref a2, V.ref a3, V.ref a4, V.ref a5, V.ref a6, V.ref a7, V.ref a8, V.ref a9, V.ref a10, V.ref a11]) nc
    clear nc e2
    refine ⟨_, rfl, ?_⟩
    refine ⟨bigr rfl, fun a12 na => ?_⟩
    replace M := M.add [175, 209, 67, 129, 21, 229, 49, 83] na
    replace e := keepL (o := .tup (([175, 209, 67, 129, 21, 229, 49, 83] : List Int).map V.int)) e na
    clear na
    refine ⟨bigr rfl, fun a13 na => ?_⟩
    replace M := M.add [203, 243, 129, 167, 153, 223, 207, 243] na
    replace e := keepL (o := .tup (([203, 243, 129, 167, 153, 223, 207, 243] : List Int).map V.int)) e na
    clear na
    refine ⟨bigr rfl, fun b2 nb => ?_⟩
    obtain ⟨M, e2⟩ := M.lstE (o := .lst [V.ref a12, V.ref a13]) nb
    replace e := keepL (o := .lst [V.ref a12, V.ref a13]) e nb
    clear nb
    refine ⟨_, _, _, _, rfl, rfl, e, e2, bigr rfl, fun c2 nc => ?_⟩
    obtain ⟨M, e⟩ := M.lstE (o := .lst [V.ref a1, V.ref a2, V.ref a3, V.ref a4, V.ref a5, V.ref a6, V.ref a7, V.ref a8, V.ref a9, V.ref a10, V.ref a11, V.ref a12, V.ref a13]) nc
    clear nc e2
    refine ⟨_, rfl, ?_⟩
    refine ⟨bigr rfl, fun a14 na => ?_⟩
    replace M := M.add [197, 147, 131] na
    replace e := keepL (o := .tup (([197, 147, 131] : List Int).map V.int)) e na
    clear na
    refine ⟨bigr rfl, fun a15 na => ?_⟩
    replace M := M.add [197, 131, 177] na
    replace e := keepL (o := .tup (([197, 131, 177] : List Int).map V.int)) e na
    clear na
    refine ⟨bigr rfl, fun a16 na => ?_⟩
    replace M := M.add [31, 255] na
    replace e := keepL (o := .tup (([31, 255] : List Int).map V.int)) e na
    clear na
    refine ⟨bigr rfl, fun a17 na => ?_⟩
    replace M := M.add [3, 3] na
    replace e := keepL (o := .tup (([3, 3] : List Int).map V.int)) e na
    clear na
    refine ⟨bigr rfl, fun a18 na => ?_⟩
    replace M := M.add [119, 225, 131, 109] na
    replace e := keepL (o := .tup (([119, 225, 131, 109] : List Int).map V.int)) e na
    clear na
    refine ⟨bigr rfl, fun b3 nb => ?_⟩
    obtain ⟨M, e2⟩ := M.lstE (o := .lst [V.ref a14, V.ref a15, V.ref a16, V.ref a17, V.ref a18]) nb
    replace e := keepL (o := .lst [V.ref a14, V.ref a15, V.ref a16, V.ref a17, V.ref a18]) e nb
    clear nb
    refine ⟨_, _, _, _, rfl, rfl, e, e2, bigr rfl, fun c3 nc => ?_⟩
    obtain ⟨M, e⟩ := M.lstE (o := .lst [V.ref a1, V.ref a2, V.ref a3, V.ref a4, V.ref a5, V.ref a6, V.ref a7, V.ref a8, V.ref a9, V.ref a10, V.ref a11, V.ref a12, V.ref a13, V.ref a14, V.ref a15, V.ref a16, V.ref a17, V.ref a18]) nc
    clear nc e2
    have p18 : (0 : Int) < 18 := by decide
    have k0 := Int.emod_nonneg k (show (18 : Int) ≠ 0 by decide)
    have k1 := Int.emod_lt_of_pos k p18
    have hi : (k % 18).toNat < menuRows.length := by
      show (k % 18).toNat < 18
      omega
    obtain ⟨p, hp, ht⟩ := Rows.get (rs := menuRows) M.rows (List.getElem?_eq_getElem hi)
    have ek : (((k % 18).toNat : Nat) : Int) = k % 18 := by omega
    refine ⟨_, rfl, _, rfl, _, rfl, _, _, rfl, .inl (SqL.of e), _, _, rfl, rfl, p18, _, _, _, _, rfl, rfl, SqL.of e, ?_, q p _ _ M.same ht (menu_ok (List.getElem?_eq_getElem hi))⟩
    show atI _ (k % 18) = _
    rw [← ek]
    exact atI_nat hp
theorem p3 : (0 : Int) < 3 := by decide
theorem p14 : (0 : Int) < 14 := by decide
theorem p42 : (0 : Int) < 42 := by decide
theorem p128c : (0 : Int) < 128 := by decide
def manyL : List Int := [2, 3, 1, 2, 4, 3, 1, 5, 2, 0, 8, 7, 6, 1]
theorem manyL_at {k : Int} (h0 : 0 ≤ k) (h1 : k < 14) : ∃ m : Int, atI (manyL.map V.int) k = some (V.int m) ∧ 0 ≤ m ∧ m ≤ 8 := by
  refine ⟨_, at_get h0 (by show k < 14; exact h1), ?_⟩
  have all : ∀ x ∈ manyL, 0 ≤ x ∧ x ≤ 8 := by decide
  refine all _ ?_
  have hk : k.toNat < manyL.length := by show k.toNat < 14; omega
  rw [List.getD_eq_getElem?_getD, List.getElem?_eq_getElem hk]
  exact List.getElem_mem hk
theorem base_at {k : Int} (h0 : 0 ≤ k) (h1 : k < 2) : ∃ b : Int, atI [V.int 26, V.int 2] k = some (V.int b) ∧ (b = 26 ∨ b = 2) := by
  rcases (by omega : k = 0 ∨ k = 1) with h | h <;> subst h
  · exact ⟨26, rfl, .inl rfl⟩
  · exact ⟨2, rfl, .inr rfl⟩
def bitOf (b : Int) (v : V) : Bool := match v with
  | .int t => decide (Builtin.bitAnd (b / 2 ^ t.toNat) 1 = 1)
  | _ => false
def sp_combs (K : PySem.W.Frag) : Sp := fun vs H Q _ => ∃ (a : Addr) (ns : List Int), vs = [.ref a] ∧ SqL K H a (ns.map V.int) ∧ ∀ p ks vs H', Same H H' → H p = none → H' p = some (.lst vs) → Drawn (fun _ => True) H' vs ks → ks.length ≤ 8 → Q (.ref p) H'
theorem sc_combs : FnScope ["_law_script", "_law_head", "_law_menu_here", "_law_many", "_law_found", "_law_used", "_law_k", "_law_cell", "_law_bits", "_law_word_here"] ["_law_script"] (defScope s_combs) := ⟨rfl, rfl, rfl, by decide +kernel, rfl, by decide +kernel, by decide +kernel⟩
theorem ok_combs (D : DefAt K mg "_law_combs" s_combs) (T : Bn mg) (C_at : Callee P w K mg base "_law_at" 1 ["_law_script", "_law_k"] (sp_at K)) (C_mixed : Callee P w K mg base "_law_mixed" 1 ["_law_cell", "_law_k"] sp_mixed) (C_word : Callee P w K mg base "_law_word" 1 ["_law_cell", "_law_base"] sp_word)
    (C_spare : Callee P w K mg base "_law_spare" 1 ["_law_word_here", "_law_used"] (sp_spare K)) (C_menu : Callee P w K mg base "_law_menu" 1 ["_law_k"] sp_menu) : Callee P w K mg base "_law_combs" 2 ["_law_script"] (sp_combs K) := by
  refine D.calleeQ sc_combs (fun _ _ _ _ _ _ us hl => match us, hl with | [_], _ => rfl) (fun vs H Q E h => ?_) (fun f cdv A outer s H vs Q E hr h => ?_)
  · obtain ⟨a, ns, rfl, _⟩ := h
    rfl
  · obtain ⟨a, ns, rfl, hS, q⟩ := h
    have S := sc_combs
    refine ⟨_, qss_cons (qs_set (i := 1) S.nd rfl (Or.inl rfl) (qe (pe_fn C_at (hr.mono (by decide)) rfl (pa_cons (pv 0) (pa_cons (pe_int) pa_nil)))))
    (qss_cons (qs_set (i := 2) S.nd rfl (Or.inl rfl) (qe (pe_fn C_menu (hr.mono (by decide)) rfl (pa_cons (pe_fn C_at (hr.mono (by decide)) rfl (pa_cons (pv 0) (pa_cons (pe_int) pa_nil))) pa_nil))))
    (qss_cons (qs_set (i := 3) S.nd rfl (Or.inl rfl) (qe_ix ix_list (qe_lst (qa_cons (qe (pe_int)) (qa_cons (qe (pe_int)) (qa_cons (qe (pe_int)) (qa_cons (qe (pe_int)) (qa_cons (qe (pe_int)) (qa_cons (qe (pe_int)) (qa_cons (qe (pe_int)) (qa_cons (qe (pe_int)) (qa_cons (qe (pe_int)) (qa_cons (qe (pe_int)) (qa_cons (qe (pe_int)) (qa_cons (qe (pe_int)) (qa_cons (qe (pe_int)) (qa_cons (qe (pe_int)) (qa_nil)))))))))))))))) (qe (pe_op op_mod (pe_op op_fdiv (pv 1) (pe_int)) (pe_int))) (fun _ _ => rfl)))
    (qss_cut (qs (ps_if (pt_cmpR op_eq (pe_op op_mod (pv 1) (pe_int)) (pe_int) (nomark _))
      (pss_one (ps_set (i := 3) S.nd rfl (Or.inl rfl) (pe_callB call_len_seq rfl T.n_len PySem.boot_len (pa_cons (pv 2) pa_nil))))
      (pss_nil)))
    (qss_cons (qs_set (i := 4) S.nd rfl (Or.inl rfl) (qe_lst (qa_nil)))
    (qss_cons (qs_set (i := 5) S.nd rfl (Or.inl rfl) (qe_lst (qa_nil)))
    (qss_cons (qs (ps_for PassesOwn.never rfl (pi_range1 rfl T.n_range (pa_cons (pv 3) pa_nil)) (pg_name (i := 6) S.nd rfl (Or.inl rfl))
      (pss_cons (ps_set (i := 7) S.nd rfl (Or.inl rfl) (pe_fn C_at (hr.mono (by decide)) rfl (pa_cons (pv 0) (pa_cons (pe_op op_add (pe_int) (pv 6)) pa_nil))))
      (pss_cut (ps_if (pt_cmpR op_gt (pe_op op_mod (pv 1) (pe_int)) (pe_int) (nomark _))
        (pss_one (ps_set (i := 7) S.nd rfl (Or.inl rfl) (pe_fn C_mixed (hr.mono (by decide)) rfl (pa_cons (pv 7) (pa_cons (pv 6) pa_nil)))))
        (pss_nil))
      (pss_cons (ps_set (i := 8) S.nd rfl (Or.inr rfl) (pe_op op_add (pe_op op_mul (pe_op op_mod (pv 7) (pe_int)) (pe_int)) (pe_int)))
      (pss_cut (ps_if (pt_cmpR op_eq (pe_op op_mod (pv 1) (pe_int)) (pe_int) (nomark _))
        (pss_one (ps_set (i := 8) S.nd rfl (Or.inr rfl) (pe_ix ix_tup (pv 2) (pv 6) (fun _ _ => rfl))))
        (pss_nil))
      (pss_cons (ps_set (i := 9) S.nd rfl (Or.inl rfl) (pe_fn C_spare (hr.mono (by decide)) rfl (pa_cons (pe_fn C_word (hr.mono (by decide)) rfl (pa_cons (pe_op op_fdiv (pv 7) (pe_int)) (pa_cons (pe_ix ix_list (pe_lst (pa_cons (pe_int) (pa_cons (pe_int) pa_nil))) (pe_op op_mod (pe_op op_fdiv (pv 1) (pe_int)) (pe_int)) (fun _ _ => rfl)) pa_nil))) (pa_cons (pv 5) pa_nil))))
      (pss_cons (ps_expr (pe_bm PySem.F.plainAttrs_list PySem.F.slot_list_append PySem.F.type_list_append mt_append (pv 5) (pa_cons (pv 9) pa_nil)))
      (pss_one (ps_expr (pe_bm PySem.F.plainAttrs_list PySem.F.slot_list_append PySem.F.type_list_append mt_append (pv 4) (pa_cons (pe_lst (pa_cons (pv 9) (pa_cons (pe_comp (own := ["_law_t"]) (caps := [(8, "_law_bits")]) rfl ⟨rfl, rfl, rfl, rfl, ⟨⟨rfl, rfl, .inl rfl⟩, trivial⟩⟩ (pi_range1 rfl T.n_range (pa_cons (pe_int) pa_nil)) (fun _ _ _ _ _ _ => pg_name (i := 0) (nd_comp (by decide +kernel)) rfl (Or.inl rfl)) (fun _ _ _ _ _ _ => pts_one (pt_cmpR op_eq (pe_op op_and (pe_op op_shr (pv 1) (pv 0)) (pe_int)) (pe_int) (nomark _))) (fun _ _ _ _ _ _ => pv 0)) pa_nil))) pa_nil))))))))))))
    (qss_one (qs_ret (qe (pv 4)))))))))), ?_⟩
    refine ⟨_, rfl, a, ns, 0, rfl, hS, by decide, ?_⟩
    generalize ns.getD (Int.toNat 0) 0 = head
    refine ⟨_, rfl, a, ns, 1, rfl, hS, by decide, _, rfl, fun pm xs H1 s1 em hm => ?_⟩
    obtain ⟨m, hma, hm0, hm8⟩ := manyL_at (k := head / 3 % 14) (Int.emod_nonneg _ (by decide)) (Int.emod_lt_of_pos _ p14)
    refine ⟨bigr rfl, fun b nb => ⟨_, rfl, _, _, rfl, rfl, ⟨p3, by decide⟩, _, _, rfl, rfl, p14, _, _, _, _, rfl, rfl, SqL.of upd_same, hma, ?_⟩⟩
    have s2 : Same H (upd H1 b (.lst (manyL.map V.int))) := s1.put (s1.free nb)
    have em2 : upd H1 b (.lst (manyL.map V.int)) pm = some (.tup (xs.map V.int)) := by rw [upd_ne (ne_of_none em nb)]; exact em
    refine ⟨fun σ H' => Same H H' ∧ H' pm = some (.tup (xs.map V.int)) ∧ ∃ m : Int, σ = [some (.ref a), some (.int head), some (.ref pm), some (.int m), none, none, none, none, none, none] ∧ 0 ≤ m ∧ m ≤ 8 ∧ (head % 3 = 2 → m = xs.length), ?_, ?_⟩
    · refine ⟨_, rfl, _, _, rfl, rfl, p3, rfl, _, rfl, ?_⟩
      refine ite2 (fun hc => ?_) (fun hc => ?_)
      · refine ⟨_, rfl, _, _, rfl, .inr (SqT.of em2), ?_⟩
        rw [List.length_map]
        exact ⟨s2, em2, _, rfl, by omega, by have := hm.1.2; omega, fun _ => rfl⟩
      · have hc : ¬ head % 3 = 2 := by simpa using hc
        exact ⟨s2, em2, _, rfl, hm0, hm8, fun z => absurd z hc⟩
    clear s2 em2 hma hm0 hm8 nb b m s1 em H1
    rintro σ H1 ⟨s1, em, m, rfl, hm0, hm8, hm2⟩
    refine ⟨bigr rfl, fun pf nf => ?_⟩
    refine ⟨bigr rfl, fun pu nu => ?_⟩
    have nfu : pf ≠ pu := fun z => by rw [← z, upd_same] at nu; cases nu
    have fH : H pf = none := s1.free nf
    have s2 := (s1.put (o := .lst []) fH)
    have uH : H pu = none := s2.free nu
    have s3 := s2.put (o := .lst []) uH
    have em3 : upd (upd H1 pf (.lst [])) pu (.lst []) pm = some (.tup (xs.map V.int)) := by
      rw [upd_ne (ne_of_none (by rw [upd_ne (ne_of_none em nf)]; exact em) nu), upd_ne (ne_of_none em nf)]; exact em
    refine ⟨_, rfl, _, rfl, by omega, by omega, ?_⟩
    refine for_g (gives_range 0 m.toNat) (fun i σ H' => Same H H' ∧ H' pm = some (.tup (xs.map V.int)) ∧ ∃ (vs : List V) (ks : List (Str × List Int)) (x6 x7 x8 x9 : Option V), σ = [some (.ref a), some (.int head), some (.ref pm), some (.int m), some (.ref pf), some (.ref pu), x6, x7, x8, x9] ∧
      H' pf = some (.lst vs) ∧ H' pu = some (.lst ((ks.map (·.1)).map V.str)) ∧ Drawn (fun x => x ≠ pf ∧ x ≠ pu) H' vs ks ∧ ks.length = i) ⟨s3, em3, [], [], _, _, _, _, rfl, by rw [upd_ne nfu, upd_same], by rw [upd_same]; rfl, ⟨trivial, List.nodup_nil, by simp⟩, rfl⟩ (fun _ _ _ _ _ => trivial) ?_ ?_
    · rintro i x σ H2 hx ⟨s2, em2, vs, ks, x6, x7, x8, x9, rfl, ef, eu, dr, hl⟩
      obtain ⟨hi, rfl⟩ := range_int hx
      have hi8 : i < 8 := by omega
      have hS2 := s2.seq hS
      refine ⟨_, rfl, _, rfl, _, _, rfl, rfl, a, ns, _, rfl, hS2, ?_, ?_⟩
      · show (0 : Int) ≤ 1 + (0 + ((i : Nat) : Int))
        omega
      generalize ns.getD (1 + (0 + ((i : Nat) : Int))).toNat 0 = cell0
      refine ⟨fun σ H' => H' = H2 ∧ ∃ (c : Int), σ = [some (.ref a), some (.int head), some (.ref pm), some (.int m), some (.ref pf), some (.ref pu), some (.int (0 + ((i : Nat) : Int))), some (.int c), x8, x9], ?_, ?_⟩
      · refine ⟨_, rfl, _, _, rfl, rfl, p3, _, _, rfl, rfl, _, rfl, ?_⟩
        refine ite2 (fun _ => ?_) (fun _ => ?_)
        · exact ⟨_, rfl, _, rfl, _, _, rfl, rfl, _, rfl⟩
        · exact ⟨rfl, _, rfl⟩
      rintro σ H3 ⟨rfl, c, rfl⟩
      have c0 := Int.emod_nonneg c (show (128 : Int) ≠ 0 by decide)
      have c1 := Int.emod_lt_of_pos c p128c
      refine ⟨_, rfl, _, _, rfl, rfl, p128c, _, _, rfl, rfl, .inr ⟨by decide, by decide⟩, _, _, rfl, rfl, ?_⟩
      refine ⟨fun σ H' => H' = H3 ∧ ∃ (bt : Int), σ = [some (.ref a), some (.int head), some (.ref pm), some (.int m), some (.ref pf), some (.ref pu), some (.int (0 + ((i : Nat) : Int))), some (.int c), some (.int bt), x9] ∧ bt % 2 = 1 ∧ 0 ≤ bt, ?_, ?_⟩
      · refine ⟨_, rfl, _, _, rfl, rfl, p3, rfl, _, rfl, ?_⟩
        refine ite2 (fun hc => ?_) (fun hc => ?_)
        · have hc : head % 3 = 2 := by simpa using hc
          have hix : i < xs.length := by have := hm2 hc; omega
          have hat : atI (xs.map V.int) (0 + ((i : Nat) : Int)) = some (V.int xs[i]) := by
            rw [Int.zero_add]
            refine atI_nat ?_
            rw [List.getElem?_map, List.getElem?_eq_getElem hix]
            rfl
          have := hm.2 xs[i] (List.getElem_mem hix)
          exact ⟨_, rfl, _, rfl, _, _, _, _, rfl, rfl, SqT.of em2, hat, rfl, _, rfl, this.1, this.2.1⟩
        · exact ⟨rfl, _, rfl, by omega, by omega⟩
      rintro σ H4 ⟨rfl, bt, rfl, hb1, hb0⟩
      obtain ⟨bs, hbs, hb2⟩ := base_at (k := head / 42 % 2) (Int.emod_nonneg _ (by decide)) (Int.emod_lt_of_pos _ p2)
      refine ⟨_, rfl, _, _, rfl, rfl, ⟨p128c, by decide⟩, bigr rfl, fun b nb => ⟨_, rfl, _, _, rfl, rfl, ⟨p42, by decide⟩, _, _, rfl, rfl, p2, _, _, _, _, rfl, rfl, SqL.of upd_same, hbs, _, _, rfl, hb2, fun y hy => ?_⟩⟩
      have s4 := s2.put (o := .lst [V.int 26, V.int 2]) (s2.free nb)
      have t4 : Same H4 (upd H4 b (.lst [V.int 26, V.int 2])) := Same.new nb
      have eu4 := t4 _ _ eu
      refine ⟨_, rfl, y, pu, ks.map (·.1), rfl, hy, SqL.of eu4, by rw [List.length_map]; omega, fun z H5 s5 hz hzn => ?_⟩
      have s5H := s4.trans s5
      have t5 := t4.trans s5
      have eu5 := t5 _ _ eu
      have ef5 := t5 _ _ ef
      have em5 := t5 _ _ em2
      have dr5 := dr.same t5
      -- used.append
      refine ⟨_, rfl, .inl ⟨rfl, _, SqL.of eu5⟩, _, rfl, _, _, _, rfl, rfl, eu5, ?_, ?_⟩
      · rw [List.length_map, List.length_map]
        exact Nat.lt_of_lt_of_le (by omega : ks.length < 1000) sizeBig
      have s6 := s5H.put (o := .lst ((ks.map (·.1)).map V.str ++ [V.str z])) uH
      have dr6 : Drawn (fun x => x ≠ pf ∧ x ≠ pu) (upd H5 pu (.lst ((ks.map (·.1)).map V.str ++ [V.str z]))) vs ks := dr5.upd fun z => z.2 rfl
      have em6 : upd H5 pu (.lst ((ks.map (·.1)).map V.str ++ [V.str z])) pm = some (.tup (xs.map V.int)) := by
        rw [upd_ne (fun w => by rw [w, eu5] at em5; cases em5)]; exact em5
      have ef6 : upd H5 pu (.lst ((ks.map (·.1)).map V.str ++ [V.str z])) pf = some (.lst vs) := by rw [upd_ne nfu]; exact ef5
      have eu6 : upd H5 pu (.lst ((ks.map (·.1)).map V.str ++ [V.str z])) pu = some (.lst ((ks.map (·.1)).map V.str ++ [V.str z])) := upd_same
      generalize upd H5 pu (.lst ((ks.map (·.1)).map V.str ++ [V.str z])) = H6 at s6 dr6 em6 ef6 eu6
      -- found.append
      refine ⟨_, rfl, .inl ⟨rfl, _, SqL.of ef6⟩, _, rfl, _, rfl, by decide, by decide, fun Dc hD => ?_⟩
      refine comp_s (capv := [some (.int bt)]) (by rfl) (gives_range 0 (8 : Int).toNat) (bigr rfl) hD ?_ (bitOf bt) (fun v => v) ?_ ?_ ?_
      · exact fun _ _ => trivial
      · intro v hv H' R s' h
        obtain ⟨t, ht, rfl⟩ := List.mem_map.mp hv
        refine ⟨_, rfl, _, rfl, _, _, rfl, rfl, ?_, _, _, rfl, rfl, rfl, _, rfl, ?_⟩
        · show (0 : Int) ≤ 0 + ((t : Nat) : Int)
          omega
        rw [dec_ii]
        exact h H' (Same.refl _)
      · intro v hv hp H' R s' h
        exact ⟨_, rfl, h H' (Same.refl _)⟩
      intro H7 s7 e7
      have ets : (((((List.range (8 : Int).toNat).map fun i => V.int (0 + ((i : Nat) : Int))).filter (bitOf bt)).map fun v => v)) = (((List.range 8).filter fun i => bitOf bt (.int (0 + ((i : Nat) : Int)))).map fun i => ((i : Nat) : Int)).map V.int := by
        rw [List.map_id', List.filter_map, List.map_map]
        show List.map _ (List.filter _ (List.range 8)) = _
        congr 1
        funext i
        show V.int (0 + ((i : Nat) : Int)) = V.int ((i : Nat) : Int)
        rw [Int.zero_add]
      have gt : GT (((List.range 8).filter fun i => bitOf bt (.int (0 + ((i : Nat) : Int)))).map fun i => ((i : Nat) : Int)) := by
        refine ⟨_, rfl, ?_⟩
        show decide (Builtin.bitAnd (bt / 2 ^ (0 + ((0 : Nat) : Int)).toNat) 1 = 1) = true
        rw [bitAnd_m1]
        apply decide_eq_true
        show bt / 1 % 2 = 1
        rw [Int.ediv_one]
        exact hb1
      rw [ets] at e7
      generalize (((List.range 8).filter fun i => bitOf bt (.int (0 + ((i : Nat) : Int)))).map fun i => ((i : Nat) : Int)) = ts at e7 gt
      refine ⟨bigr rfl, fun q' nq => ?_⟩
      have t7 : Same H6 H7 := s7
      have n7 : ∀ {x o}, H6 x = some o → x ≠ Dc := fun e z => by rw [z, hD] at e; cases e
      have n8 : ∀ {x o}, H7 x = some o → x ≠ q' := fun e z => by rw [z, nq] at e; cases e
      have ef8 : upd H7 q' (.lst [V.str z, V.ref Dc]) pf = some (.lst vs) := by rw [upd_ne (n8 (t7 _ _ ef6))]; exact t7 _ _ ef6
      refine ⟨_, _, _, rfl, rfl, ef8, ?_, ?_⟩
      · rw [dr6.rows.length]
        exact Nat.lt_of_lt_of_le (by omega : ks.length < 1000) sizeBig
      have s8 := ((s6.trans s7).put (o := .lst [V.str z, V.ref Dc]) ((s6.trans s7).free nq)).put (o := .lst (vs ++ [V.ref q'])) fH
      have fq : q' ≠ pf := (n8 (t7 _ _ ef6)).symm
      have uq : q' ≠ pu := (n8 (t7 _ _ eu6)).symm
      refine ⟨s8, ?_, vs ++ [.ref q'], ks ++ [(z, ts)], _, _, _, _, rfl, upd_same, ?_, ?_, by rw [List.length_append, hl]; rfl⟩
      · have fm : pm ≠ pf := fun w => by rw [w, ef6] at em6; cases em6
        rw [upd_ne fm, upd_ne (n8 (t7 _ _ em6))]
        exact t7 _ _ em6
      · rw [upd_ne nfu.symm, upd_ne (n8 (t7 _ _ eu6)), t7 _ _ eu6, List.map_append, List.map_append]
        rfl
      · refine Drawn.snoc (q := q') (t := Dc) (((dr6.same t7).same (Same.new nq)).upd fun w => w.1 rfl) ?_ ?_ ⟨fq, uq⟩ ⟨(n7 ef6).symm, (n7 eu6).symm⟩ hzn ⟨hz, gt⟩
        · rw [upd_ne fq, upd_same]
        · rw [upd_ne (n7 ef6).symm, upd_ne (n8 e7)]
          exact e7
    · rintro σ H2 ⟨s2, em2, vs, ks, x6, x7, x8, x9, rfl, ef, eu, dr, hl⟩
      rw [List.length_map, List.length_range] at hl
      exact ⟨_, rfl, q pf ks vs H2 s2 fH ef dr.any (by omega)⟩
--CUT--
/-! ### which refusal it is -/
structure Ea (mg : Str → Option Value) (ea : Nat → Addr) : Prop where
  n0 : mg "BadName" = some (.ref (ea 0))
  n1 : mg "BadTeeth" = some (.ref (ea 1))
  n2 : mg "NameTaken" = some (.ref (ea 2))
  n3 : mg "BookFull" = some (.ref (ea 3))
  n4 : mg "NoComb" = some (.ref (ea 4))
  n5 : mg "BadTooth" = some (.ref (ea 5))
  n6 : mg "ToothThere" = some (.ref (ea 6))
  n7 : mg "FirstTooth" = some (.ref (ea 7))
  n8 : mg "ToothMissing" = some (.ref (ea 8))
  n9 : mg "DeedsFull" = some (.ref (ea 9))
  n10 : mg "NothingDone" = some (.ref (ea 10))
  n11 : mg "BadShape" = some (.ref (ea 11))
  n12 : mg "BadPlace" = some (.ref (ea 12))
  n13 : mg "BadLength" = some (.ref (ea 13))
  n14 : mg "NoFilling" = some (.ref (ea 14))
def spKind (K : PySem.W.Frag) (ea : Nat → Addr) : Addr → Value → Sp := fun e c vs H Q _ => vs = [.ref e] ∧ ∃ D j, c = .ref D ∧ KindF K ea D j ∧ ∀ p H', Same H H' → H p = none → H' p = some (.lst [.str (errName j)]) → Q (.ref p) H'
def kb (j i : Nat) : V := .bl (decide (i = j))
def kBools (j : Nat) : List V := (List.range 15).map (kb j)
theorem kBools_eq (j : Nat) : kBools j = [kb j 0, kb j 1, kb j 2, kb j 3, kb j 4, kb j 5, kb j 6, kb j 7, kb j 8, kb j 9, kb j 10, kb j 11, kb j 12, kb j 13, kb j 14] := rfl
def isJ (j : Nat) (v : V) : Bool := match v with
  | .int t => decide (t.toNat = j)
  | _ => false
def wordJ (v : V) : V := match v with
  | .int t => .str (errName t.toNat)
  | _ => .non
theorem kind_res {j : Nat} (h : j < 15) : (((List.range (15 : Int).toNat).map fun i => V.int (0 + ((i : Nat) : Int))).filter (isJ j)).map wordJ = [.str (errName j)] := by
  have all : ∀ j ∈ List.range 15, (((List.range (15 : Int).toNat).map fun i => V.int (0 + ((i : Nat) : Int))).filter (isJ j)).map wordJ = [.str (errName j)] := by decide +kernel
  exact all j (List.mem_range.mpr h)
theorem sc_kind : FnScope ["_law_e", "_law_is_one", "_law_words"] ["_law_e"] (defScope s_kind) := ⟨rfl, rfl, rfl, by decide +kernel, rfl, by decide +kernel, by decide +kernel⟩
theorem ok_kind (D : DefAt K mg "_law_kind" s_kind) (T : Bn mg) {ea : Nat → Addr} (EA : Ea mg ea) : HCallee P w K mg base "_law_kind" 1 ["_law_e"] (spKind K ea) := by
  have V_BadName := EA.n0
  have V_BadTeeth := EA.n1
  have V_NameTaken := EA.n2
  have V_BookFull := EA.n3
  have V_NoComb := EA.n4
  have V_BadTooth := EA.n5
  have V_ToothThere := EA.n6
  have V_FirstTooth := EA.n7
  have V_ToothMissing := EA.n8
  have V_DeedsFull := EA.n9
  have V_NothingDone := EA.n10
  have V_BadShape := EA.n11
  have V_BadPlace := EA.n12
  have V_BadLength := EA.n13
  have V_NoFilling := EA.n14
  refine D.hcalleeQ sc_kind (fun _ _ _ _ _ _ us hl => match us, hl with | [_], _ => rfl) (fun e c vs H Q E h => ?_) (fun f cdv A outer s H vs Q e oe c ws hc hd hq h => ?_)
  · obtain ⟨rfl, _⟩ := h
    rfl
  · obtain ⟨rfl, D, j, rfl, F, q⟩ := h
    have S := sc_kind
    have pin : (e, oe) ∈ (cxH P w K mg base ["_law_e", "_law_is_one", "_law_words"] "_law_kind" (defScope s_kind) f cdv A outer s H e oe).pn ∧ (oe.cls = .ref D ∧ oe.dict = none) ∧ ∃ vs, oe.data = .fields vs := ⟨List.mem_singleton.mpr rfl, hc, ws, hd⟩
    refine ⟨_, qss_cons (qs_set (i := 1) S.nd rfl (Or.inr rfl) (qe_lst (qa_cons (qe (pe_callB call_isx rfl T.n_isinstance boot_isinstance (pa_cons (pv 0) (pa_cons (pe_cls rfl V_BadName) pa_nil)))) (qa_cons (qe (pe_callB call_isx rfl T.n_isinstance boot_isinstance (pa_cons (pv 0) (pa_cons (pe_cls rfl V_BadTeeth) pa_nil)))) (qa_cons (qe (pe_callB call_isx rfl T.n_isinstance boot_isinstance (pa_cons (pv 0) (pa_cons (pe_cls rfl V_NameTaken) pa_nil)))) (qa_nil))))))
    (qss_cons (qs_set (i := 1) S.nd rfl (Or.inr rfl) (qe_op op_cat (qe (pv 1)) (qe_lst (qa_cons (qe (pe_callB call_isx rfl T.n_isinstance boot_isinstance (pa_cons (pv 0) (pa_cons (pe_cls rfl V_BookFull) pa_nil)))) (qa_cons (qe (pe_callB call_isx rfl T.n_isinstance boot_isinstance (pa_cons (pv 0) (pa_cons (pe_cls rfl V_NoComb) pa_nil)))) (qa_cons (qe (pe_callB call_isx rfl T.n_isinstance boot_isinstance (pa_cons (pv 0) (pa_cons (pe_cls rfl V_BadTooth) pa_nil)))) (qa_nil)))))))
    (qss_cons (qs_set (i := 1) S.nd rfl (Or.inr rfl) (qe_op op_cat (qe (pv 1)) (qe_lst (qa_cons (qe (pe_callB call_isx rfl T.n_isinstance boot_isinstance (pa_cons (pv 0) (pa_cons (pe_cls rfl V_ToothThere) pa_nil)))) (qa_cons (qe (pe_callB call_isx rfl T.n_isinstance boot_isinstance (pa_cons (pv 0) (pa_cons (pe_cls rfl V_FirstTooth) pa_nil)))) (qa_nil))))))
    (qss_cons (qs_set (i := 1) S.nd rfl (Or.inr rfl) (qe_op op_cat (qe (pv 1)) (qe_lst (qa_cons (qe (pe_callB call_isx rfl T.n_isinstance boot_isinstance (pa_cons (pv 0) (pa_cons (pe_cls rfl V_ToothMissing) pa_nil)))) (qa_cons (qe (pe_callB call_isx rfl T.n_isinstance boot_isinstance (pa_cons (pv 0) (pa_cons (pe_cls rfl V_DeedsFull) pa_nil)))) (qa_nil))))))
    (qss_cons (qs_set (i := 1) S.nd rfl (Or.inr rfl) (qe_op op_cat (qe (pv 1)) (qe_lst (qa_cons (qe (pe_callB call_isx rfl T.n_isinstance boot_isinstance (pa_cons (pv 0) (pa_cons (pe_cls rfl V_NothingDone) pa_nil)))) (qa_cons (qe (pe_callB call_isx rfl T.n_isinstance boot_isinstance (pa_cons (pv 0) (pa_cons (pe_cls rfl V_BadShape) pa_nil)))) (qa_nil))))))
    (qss_cons (qs_set (i := 1) S.nd rfl (Or.inr rfl) (qe_op op_cat (qe (pv 1)) (qe_lst (qa_cons (qe (pe_callB call_isx rfl T.n_isinstance boot_isinstance (pa_cons (pv 0) (pa_cons (pe_cls rfl V_BadPlace) pa_nil)))) (qa_cons (qe (pe_callB call_isx rfl T.n_isinstance boot_isinstance (pa_cons (pv 0) (pa_cons (pe_cls rfl V_BadLength) pa_nil)))) (qa_cons (qe (pe_callB call_isx rfl T.n_isinstance boot_isinstance (pa_cons (pv 0) (pa_cons (pe_cls rfl V_NoFilling) pa_nil)))) (qa_nil)))))))
    (qss_cons (qs_set (i := 2) S.nd rfl (Or.inr rfl) (qe_lst (qa_cons (qe (pe_str)) (qa_cons (qe (pe_str)) (qa_cons (qe (pe_str)) (qa_cons (qe (pe_str)) (qa_cons (qe (pe_str)) (qa_cons (qe (pe_str)) (qa_cons (qe (pe_str)) (qa_nil))))))))))
    (qss_cons (qs_set (i := 2) S.nd rfl (Or.inr rfl) (qe_op op_cat (qe (pv 2)) (qe_lst (qa_cons (qe (pe_str)) (qa_cons (qe (pe_str)) (qa_cons (qe (pe_str)) (qa_cons (qe (pe_str)) (qa_cons (qe (pe_str)) (qa_nil)))))))))
    (qss_cons (qs_set (i := 2) S.nd rfl (Or.inr rfl) (qe_op op_cat (qe (pv 2)) (qe_lst (qa_cons (qe (pe_str)) (qa_cons (qe (pe_str)) (qa_cons (qe (pe_str)) (qa_nil)))))))
    (qss_one (qs_ret (qe (pe_compq (own := ["_law_k"]) (caps := [(1, "_law_is_one"), (2, "_law_words")]) (QH e oe) (fun _ _ _ _ _ _ => hq.comp) ⟨rfl, rfl, rfl, rfl, ⟨⟨rfl, rfl, .inl rfl⟩, ⟨rfl, rfl, .inl rfl⟩, trivial⟩⟩ (pi_range1q rfl T.n_range (pa_cons (pe_int) pa_nil)) (fun _ _ _ _ _ _ => pg_name (i := 0) (nd_comp (by decide +kernel)) rfl (Or.inl rfl)) (fun _ _ _ _ _ _ => pts_one (pt_val (pe_ix (ix_list' K rfl) (pv 1) (pv 0) (fun _ _ => rfl)))) (fun _ _ _ _ _ _ => pe_ix (ix_list' K rfl) (pv 2) (pv 0) (fun _ _ => rfl)))))))))))))), ?_⟩
    have M : Same H H := Same.refl H
    refine ⟨_, rfl, _, _, D, oe, _, rfl, pin, F.cls, F.kit 0 (by decide), _, rfl, _, _, D, oe, _, rfl, pin, F.cls, F.kit 1 (by decide), _, rfl, _, _, D, oe, _, rfl, pin, F.cls, F.kit 2 (by decide), bigr rfl, fun a0 na => ?_⟩
    obtain ⟨M, e1⟩ := M.lstE (o := .lst [kb j 0, kb j 1, kb j 2]) na
    clear na
    refine ⟨_, rfl, _, rfl, _, _, D, oe, _, rfl, pin, F.cls, F.kit 3 (by decide), _, rfl, _, _, D, oe, _, rfl, pin, F.cls, F.kit 4 (by decide), _, rfl, _, _, D, oe, _, rfl, pin, F.cls, F.kit 5 (by decide), bigr rfl, fun a1 na => ?_⟩
    obtain ⟨M, e2⟩ := M.lstE (o := .lst [kb j 3, kb j 4, kb j 5]) na
    replace e1 := keepL (o := .lst [kb j 3, kb j 4, kb j 5]) e1 na
    clear na
    refine ⟨_, _, _, _, rfl, rfl, e1, e2, bigr rfl, fun c1 nc => ?_⟩
    obtain ⟨M, e1⟩ := M.lstE (o := .lst [kb j 0, kb j 1, kb j 2, kb j 3, kb j 4, kb j 5]) nc
    clear nc e2
    refine ⟨_, rfl, _, rfl, _, _, D, oe, _, rfl, pin, F.cls, F.kit 6 (by decide), _, rfl, _, _, D, oe, _, rfl, pin, F.cls, F.kit 7 (by decide), bigr rfl, fun a2 na => ?_⟩
    obtain ⟨M, e2⟩ := M.lstE (o := .lst [kb j 6, kb j 7]) na
    replace e1 := keepL (o := .lst [kb j 6, kb j 7]) e1 na
    clear na
    refine ⟨_, _, _, _, rfl, rfl, e1, e2, bigr rfl, fun c2 nc => ?_⟩
    obtain ⟨M, e1⟩ := M.lstE (o := .lst [kb j 0, kb j 1, kb j 2, kb j 3, kb j 4, kb j 5, kb j 6, kb j 7]) nc
    clear nc e2
    refine ⟨_, rfl, _, rfl, _, _, D, oe, _, rfl, pin, F.cls, F.kit 8 (by decide), _, rfl, _, _, D, oe, _, rfl, pin, F.cls, F.kit 9 (by decide), bigr rfl, fun a3 na => ?_⟩
    obtain ⟨M, e2⟩ := M.lstE (o := .lst [kb j 8, kb j 9]) na
    replace e1 := keepL (o := .lst [kb j 8, kb j 9]) e1 na
    clear na
    refine ⟨_, _, _, _, rfl, rfl, e1, e2, bigr rfl, fun c3 nc => ?_⟩
    obtain ⟨M, e1⟩ := M.lstE (o := .lst [kb j 0, kb j 1, kb j 2, kb j 3, kb j 4, kb j 5, kb j 6, kb j 7, kb j 8, kb j 9]) nc
    clear nc e2
    refine ⟨_, rfl, _, rfl, _, _, D, oe, _, rfl, pin, F.cls, F.kit 10 (by decide), _, rfl, _, _, D, oe, _, rfl, pin, F.cls, F.kit 11 (by decide), bigr rfl, fun a4 na => ?_⟩
    obtain ⟨M, e2⟩ := M.lstE (o := .lst [kb j 10, kb j 11]) na
    replace e1 := keepL (o := .lst [kb j 10, kb j 11]) e1 na
    clear na
    refine ⟨_, _, _, _, rfl, rfl, e1, e2, bigr rfl, fun c4 nc => ?_⟩
    obtain ⟨M, e1⟩ := M.lstE (o := .lst [kb j 0, kb j 1, kb j 2, kb j 3, kb j 4, kb j 5, kb j 6, kb j 7, kb j 8, kb j 9, kb j 10, kb j 11]) nc
    clear nc e2
    refine ⟨_, rfl, _, rfl, _, _, D, oe, _, rfl, pin, F.cls, F.kit 12 (by decide), _, rfl, _, _, D, oe, _, rfl, pin, F.cls, F.kit 13 (by decide), _, rfl, _, _, D, oe, _, rfl, pin, F.cls, F.kit 14 (by decide), bigr rfl, fun a5 na => ?_⟩
    obtain ⟨M, e2⟩ := M.lstE (o := .lst [kb j 12, kb j 13, kb j 14]) na
    replace e1 := keepL (o := .lst [kb j 12, kb j 13, kb j 14]) e1 na
    clear na
    refine ⟨_, _, _, _, rfl, rfl, e1, e2, bigr rfl, fun c5 nc => ?_⟩
    obtain ⟨M, e1⟩ := M.lstE (o := .lst [kb j 0, kb j 1, kb j 2, kb j 3, kb j 4, kb j 5, kb j 6, kb j 7, kb j 8, kb j 9, kb j 10, kb j 11, kb j 12, kb j 13, kb j 14]) nc
    clear nc e2
    refine ⟨bigr rfl, fun w0 nw => ?_⟩
    obtain ⟨M, f1⟩ := M.lstE (o := .lst [V.str (Str.ofString "BadName"), V.str (Str.ofString "BadTeeth"), V.str (Str.ofString "NameTaken"), V.str (Str.ofString "BookFull"), V.str (Str.ofString "NoComb"), V.str (Str.ofString "BadTooth"), V.str (Str.ofString "ToothThere")]) nw
    replace e1 := keepL (o := .lst [V.str (Str.ofString "BadName"), V.str (Str.ofString "BadTeeth"), V.str (Str.ofString "NameTaken"), V.str (Str.ofString "BookFull"), V.str (Str.ofString "NoComb"), V.str (Str.ofString "BadTooth"), V.str (Str.ofString "ToothThere")]) e1 nw
    clear nw
    refine ⟨_, rfl, bigr rfl, fun w1 nw => ?_⟩
    obtain ⟨M, f2⟩ := M.lstE (o := .lst [V.str (Str.ofString "FirstTooth"), V.str (Str.ofString "ToothMissing"), V.str (Str.ofString "DeedsFull"), V.str (Str.ofString "NothingDone"), V.str (Str.ofString "BadShape")]) nw
    replace e1 := keepL (o := .lst [V.str (Str.ofString "FirstTooth"), V.str (Str.ofString "ToothMissing"), V.str (Str.ofString "DeedsFull"), V.str (Str.ofString "NothingDone"), V.str (Str.ofString "BadShape")]) e1 nw
    replace f1 := keepL (o := .lst [V.str (Str.ofString "FirstTooth"), V.str (Str.ofString "ToothMissing"), V.str (Str.ofString "DeedsFull"), V.str (Str.ofString "NothingDone"), V.str (Str.ofString "BadShape")]) f1 nw
    clear nw
    refine ⟨_, _, _, _, rfl, rfl, f1, f2, bigr rfl, fun x1 nx => ?_⟩
    obtain ⟨M, f1⟩ := M.lstE (o := .lst [V.str (Str.ofString "BadName"), V.str (Str.ofString "BadTeeth"), V.str (Str.ofString "NameTaken"), V.str (Str.ofString "BookFull"), V.str (Str.ofString "NoComb"), V.str (Str.ofString "BadTooth"), V.str (Str.ofString "ToothThere"), V.str (Str.ofString "FirstTooth"), V.str (Str.ofString "ToothMissing"), V.str (Str.ofString "DeedsFull"), V.str (Str.ofString "NothingDone"), V.str (Str.ofString "BadShape")]) nx
    replace e1 := keepL (o := .lst [V.str (Str.ofString "BadName"), V.str (Str.ofString "BadTeeth"), V.str (Str.ofString "NameTaken"), V.str (Str.ofString "BookFull"), V.str (Str.ofString "NoComb"), V.str (Str.ofString "BadTooth"), V.str (Str.ofString "ToothThere"), V.str (Str.ofString "FirstTooth"), V.str (Str.ofString "ToothMissing"), V.str (Str.ofString "DeedsFull"), V.str (Str.ofString "NothingDone"), V.str (Str.ofString "BadShape")]) e1 nx
    clear nx f2
    refine ⟨_, rfl, bigr rfl, fun w2 nw => ?_⟩
    obtain ⟨M, f2⟩ := M.lstE (o := .lst [V.str (Str.ofString "BadPlace"), V.str (Str.ofString "BadLength"), V.str (Str.ofString "NoFilling")]) nw
    replace e1 := keepL (o := .lst [V.str (Str.ofString "BadPlace"), V.str (Str.ofString "BadLength"), V.str (Str.ofString "NoFilling")]) e1 nw
    replace f1 := keepL (o := .lst [V.str (Str.ofString "BadPlace"), V.str (Str.ofString "BadLength"), V.str (Str.ofString "NoFilling")]) f1 nw
    clear nw
    refine ⟨_, _, _, _, rfl, rfl, f1, f2, bigr rfl, fun x2 nx => ?_⟩
    obtain ⟨M, f1⟩ := M.lstE (o := .lst [V.str (Str.ofString "BadName"), V.str (Str.ofString "BadTeeth"), V.str (Str.ofString "NameTaken"), V.str (Str.ofString "BookFull"), V.str (Str.ofString "NoComb"), V.str (Str.ofString "BadTooth"), V.str (Str.ofString "ToothThere"), V.str (Str.ofString "FirstTooth"), V.str (Str.ofString "ToothMissing"), V.str (Str.ofString "DeedsFull"), V.str (Str.ofString "NothingDone"), V.str (Str.ofString "BadShape"), V.str (Str.ofString "BadPlace"), V.str (Str.ofString "BadLength"), V.str (Str.ofString "NoFilling")]) nx
    replace e1 := keepL (o := .lst [V.str (Str.ofString "BadName"), V.str (Str.ofString "BadTeeth"), V.str (Str.ofString "NameTaken"), V.str (Str.ofString "BookFull"), V.str (Str.ofString "NoComb"), V.str (Str.ofString "BadTooth"), V.str (Str.ofString "ToothThere"), V.str (Str.ofString "FirstTooth"), V.str (Str.ofString "ToothMissing"), V.str (Str.ofString "DeedsFull"), V.str (Str.ofString "NothingDone"), V.str (Str.ofString "BadShape"), V.str (Str.ofString "BadPlace"), V.str (Str.ofString "BadLength"), V.str (Str.ofString "NoFilling")]) e1 nx
    clear nx f2
    refine ⟨_, rfl, by decide, by decide, fun Dc hD => ?_⟩
    refine comp_s (capv := [some (.ref c5), some (.ref x2)]) (by rfl) (gives_range 0 (15 : Int).toNat) (bigr rfl) hD ?_ (isJ j) wordJ ?_ ?_ ?_
    · exact fun _ _ => trivial
    · intro v hv H' R s' h
      obtain ⟨t, ht, rfl⟩ := List.mem_map.mp hv
      have ht15 : t < 15 := List.mem_range.mp ht
      refine ⟨_, rfl, _, rfl, _, _, _, _, rfl, rfl, SqL.of (s' _ _ e1), (?_ : atI (kBools j) (0 + ((t : Nat) : Int)) = some (kb j t)), _, rfl, ?_⟩
      · rw [Int.zero_add]
        refine atI_nat ?_
        unfold kBools
        rw [List.getElem?_map, List.getElem?_range ht15]
        rfl
      · have e : isJ j (.int (0 + ((t : Nat) : Int))) = decide (t = j) := by
          show decide ((0 + ((t : Nat) : Int)).toNat = j) = _
          rw [Int.zero_add, Int.toNat_natCast]
        have h := h H' (Same.refl _)
        rw [e] at h
        exact h
    · intro v hv hp H' R s' h
      obtain ⟨t, ht, rfl⟩ := List.mem_map.mp hv
      have ht15 : t < 15 := List.mem_range.mp ht
      refine ⟨_, rfl, _, rfl, _, _, _, _, rfl, rfl, SqL.of (s' _ _ f1), (?_ : atI (errNames.map V.str) (0 + ((t : Nat) : Int)) = some (wordJ (.int (0 + ((t : Nat) : Int))))), h H' (Same.refl _)⟩
      rw [Int.zero_add]
      refine atI_nat ?_
      have hl : t < errNames.length := ht15
      show (errNames.map V.str)[t]? = some (.str (errName ((t : Nat) : Int).toNat))
      rw [List.getElem?_map, List.getElem?_eq_getElem hl, Int.toNat_natCast]
      unfold errName
      rw [List.getD_eq_getElem?_getD, List.getElem?_eq_getElem hl]
      rfl
    · intro H' s' e
      rw [kind_res F.lt] at e
      exact q _ H' (M.trans s') (M.free hD) e
--CUT--
theorem lt_one {a b : Nat} : ([a] < [b]) ↔ a < b := by
  rw [List.cons_lt_cons_iff]
  simp
theorem le_a (c : Nat) : (!decide ((⟨#[c]⟩ : Str).cps.toList < (Str.ofString "a").cps.toList)) = decide (97 ≤ c) := by
  have e : (Str.ofString "a").cps.toList = [97] := by decide +kernel
  rw [e]
  show (!decide ([c] < [97])) = _
  rw [Bool.eq_iff_iff]
  simp only [Bool.not_eq_true', decide_eq_false_iff_not, decide_eq_true_eq, lt_one]
  omega
theorem le_z (c : Nat) : (!decide ((Str.ofString "z").cps.toList < (⟨#[c]⟩ : Str).cps.toList)) = decide (c ≤ 122) := by
  have e : (Str.ofString "z").cps.toList = [122] := by decide +kernel
  rw [e]
  show (!decide ([122] < [c])) = _
  rw [Bool.eq_iff_iff]
  simp only [Bool.not_eq_true', decide_eq_false_iff_not, decide_eq_true_eq, lt_one]
  omega
def sp_small : Sp := fun vs H Q _ => ∃ c : Nat, vs = [sgn c] ∧ Q (.bl (small c)) H
theorem sc_is_small_letter : FnScope ["sign"] ["sign"] (defScope s_is_small_letter) := ⟨rfl, rfl, rfl, by decide +kernel, rfl, by decide +kernel, by decide +kernel⟩
theorem ok_small (D : DefAt K mg "is_small_letter" s_is_small_letter) (T : Bn mg) : Callee P w K mg base "is_small_letter" 1 ["sign"] sp_small := by
  refine D.callee sc_is_small_letter (fun _ _ _ _ _ _ us hl => match us, hl with | [_], _ => rfl) (fun vs H Q E h => ?_) (fun f cdv A outer s H vs Q E hr h => ?_)
  · obtain ⟨c, rfl, _⟩ := h
    rfl
  · obtain ⟨c, rfl, q⟩ := h
    have S := sc_is_small_letter
    refine ⟨_, pss_one (ps_ret (pe_chain op_le_str op_le_str (pe_str) (pv 0) (pe_str))), ?_⟩
    refine ⟨_, rfl, _, _, rfl, rfl, _, rfl, ?_⟩
    rw [le_a]
    have q' : Q (.bl (decide (97 ≤ c) && decide (c ≤ 122))) H := q
    cases e : decide (97 ≤ c) with
    | false =>
      rw [if_neg Bool.false_ne_true]
      rw [e] at q'
      exact q'
    | true =>
      rw [if_pos rfl]
      refine ⟨_, _, rfl, rfl, ?_⟩
      rw [le_z]
      rw [e] at q'
      exact q'
def sp_name : Sp := fun vs H Q _ => ∃ x : Str, vs = [.str x] ∧ x.length ≤ sizeLine ∧ ∀ H', Same H H' → Q (.bl (isName x)) H'
theorem sc_is_name : FnScope ["text"] ["text"] (defScope s_is_name) := ⟨rfl, rfl, rfl, by decide +kernel, rfl, by decide +kernel, by decide +kernel⟩
theorem ok_name (D : DefAt K mg "is_name" s_is_name) (T : Bn mg) (V_MOST_NAME : ∃ t, mg "MOST_NAME" = some (.int 6 t)) (C_is_small_letter : Callee P w K mg base "is_small_letter" 1 ["sign"] sp_small) : Callee P w K mg base "is_name" 2 ["text"] sp_name := by
  refine D.callee sc_is_name (fun _ _ _ _ _ _ us hl => match us, hl with | [_], _ => rfl) (fun vs H Q E h => ?_) (fun f cdv A outer s H vs Q E hr h => ?_)
  · obtain ⟨c, rfl, _⟩ := h
    rfl
  · obtain ⟨x, rfl, hx, q⟩ := h
    have S := sc_is_name
    refine ⟨_, pss_cons (ps_if (pt_not (pt_chain op_le op_le (pe_int) (pe_callB call_len_str rfl T.n_len PySem.boot_len (pa_cons (pv 0) pa_nil)) (pe_gint rfl V_MOST_NAME)))
      (pss_one (ps_ret (pe_bl)))
      (pss_nil))
    (pss_one (ps_ret (pe_callB (call_all rfl) rfl T.n_all boot_all (pa_cons (pe_comp (own := ["sign"]) (caps := []) rfl ⟨rfl, rfl, rfl, rfl, trivial⟩ (pi_str (pv 0)) (fun _ _ _ _ _ _ => pg_name (i := 0) (nd_comp (by decide +kernel)) rfl (Or.inl rfl)) (fun _ _ _ _ _ _ => pts_nil) (fun _ _ _ _ _ _ => pe_fn C_is_small_letter (hr.mono (by decide)) rfl (pa_cons (pv 0) pa_nil))) pa_nil)))), ?_⟩
    have fin : ∀ H', Same H H' → (decide (1 ≤ x.length) && decide (x.length ≤ 6)) = false → Q (.bl false) H' := fun H' s' e => by
      have := q H' s'
      unfold isName at this
      rw [e] at this
      exact this
    refine ⟨_, rfl, _, rfl, hx, _, _, rfl, rfl, _, rfl, ?_⟩
    refine ite2 (fun h1 => ?_) (fun h1 => ?_)
    · refine ⟨_, _, rfl, rfl, _, rfl, ?_⟩
      refine ite2 (fun h2 => ?_) (fun h2 => ?_)
      · refine fin H (Same.refl H) ?_
        have : ¬ (x.length : Int) ≤ 6 := by simpa using h2
        rw [Bool.and_eq_false_iff]
        exact .inr (decide_eq_false (by omega))
      · refine ⟨_, rfl, _, rfl, fun D hD => ?_⟩
        refine comp_s (capv := []) (L := x.cps.toList.map sgn) (by rfl) (gives_str x) (by rw [List.length_map, txt_len]; exact hx) hD ?_ (fun _ => true) (fun v => match v with | .str y => .bl (small (y.cps.getD 0 0)) | _ => .non) ?_ ?_ ?_
        · exact fun _ _ => trivial
        · exact fun v hv H' R s' h => h H' (Same.refl _)
        · intro v hv _ H' R s' h
          obtain ⟨c, hc, rfl⟩ := List.mem_map.mp hv
          exact ⟨_, rfl, c, rfl, h H' (Same.refl _)⟩
        · intro H' s' e
          refine ⟨_, x.cps.toList.map small, rfl, ?_, ?_⟩
          · refine SqL.of ?_
            rw [e]
            congr 2
            rw [List.filter_eq_self.mpr (fun _ _ => rfl), List.map_map, List.map_map]
            rfl
          · have := q H' s'
            unfold isName at this
            have h3 : ¬ ¬ (x.length : Int) ≤ 6 := by simpa using h2
            have h1' : (1 : Int) ≤ x.length := by simpa using h1
            rw [decide_eq_true (show 1 ≤ x.length by omega), decide_eq_true (show x.length ≤ 6 by omega)] at this
            rw [List.all_map]
            exact this
    · refine ⟨_, rfl, ?_⟩
      refine fin H (Same.refl H) ?_
      have h1' : ¬ (1 : Int) ≤ x.length := by simpa using h1
      rw [Bool.and_eq_false_iff]
      exact .inl (decide_eq_false (by omega))
def sp_teeth (K : PySem.W.Frag) : Sp := fun vs H Q _ => ∃ (a : Addr) (ts : List Int), vs = [.ref a] ∧ SqL K H a (ts.map V.int) ∧ ts.length ≤ 1000 ∧ ∀ H', Same H H' → Q (.bl (areTeeth ts)) H'
theorem sc_are_teeth : FnScope ["teeth"] ["teeth"] (defScope s_are_teeth) := ⟨rfl, rfl, rfl, by decide +kernel, rfl, by decide +kernel, by decide +kernel⟩
theorem ok_teeth (D : DefAt K mg "are_teeth" s_are_teeth) (T : Bn mg) (V_MOST_TOOTH : ∃ t, mg "MOST_TOOTH" = some (.int 7 t)) : Callee P w K mg base "are_teeth" 1 ["teeth"] (sp_teeth K) := by
  refine D.callee sc_are_teeth (fun _ _ _ _ _ _ us hl => match us, hl with | [_], _ => rfl) (fun vs H Q E h => ?_) (fun f cdv A outer s H vs Q E hr h => ?_)
  · obtain ⟨a, ts, rfl, _⟩ := h
    rfl
  · obtain ⟨a, ts, rfl, ha, hl, q⟩ := h
    have S := sc_are_teeth
    unfold areTeeth at q
    refine ⟨_, pss_cons (ps_if (pt_cmpR op_notIn_seq (pe_int) (pv 0) (by with_unfolding_all rfl))
      (pss_one (ps_ret (pe_bl)))
      (pss_nil))
    (pss_cons (ps_if (pt_cmpR op_ne (pe_callB call_lenS rfl T.n_len PySem.boot_len (pa_cons (pe_callTy (call_set1 rfl) rfl T.n_set boot_set (pa_cons (pv 0) pa_nil)) pa_nil)) (pe_callB call_len_seq rfl T.n_len PySem.boot_len (pa_cons (pv 0) pa_nil)) (nomark _))
      (pss_one (ps_ret (pe_bl)))
      (pss_nil))
    (pss_one (ps_ret (pe_callB (call_all rfl) rfl T.n_all boot_all (pa_cons (pe_comp (own := ["tooth"]) (caps := []) rfl ⟨rfl, rfl, rfl, rfl, trivial⟩ (pi_list (pv 0)) (fun _ _ _ _ _ _ => pg_name (i := 0) (nd_comp (by decide +kernel)) rfl (Or.inl rfl)) (fun _ _ _ _ _ _ => pts_nil) (fun _ _ _ _ _ _ => pe_chain op_le op_le (pe_int) (pv 0) (pe_gint rfl V_MOST_TOOTH))) pa_nil))))), ?_⟩
    refine ⟨_, rfl, _, _, rfl, .inl ha, rfl, flats ts, _, rfl, ?_⟩
    rw [if_pos rfl, in_zero]
    refine ite2 (fun hc => ?_) (fun hc => ?_)
    · have h0 : decide (0 ∈ ts) = false := by simpa using hc
      rw [h0] at q
      exact q H (Same.refl H)
    · have h0 : decide (0 ∈ ts) = true := by simpa using hc
      rw [h0, Bool.true_and] at q
      refine ⟨_, rfl, _, ts, rfl, ha, ?_, fun p np => ?_⟩
      · show ts.length + 1 < 4096
        omega
      have s1 : Same H (upd H p (.set (fun k => (firstMet (fun i => ts.getD i 0) ts.length).any (· == k)) (many ts))) := Same.new np
      refine ⟨_, _, _, rfl, upd_same, _, rfl, _, _, rfl, .inl (s1.seq ha), rfl, _, rfl, ?_⟩
      rw [List.length_map]
      refine ite2 (fun hm => ?_) (fun hm => ?_)
      · have h1 : ¬ many ts = ts.length := fun z => by simp [z] at hm
        rw [decide_eq_false h1, Bool.false_and] at q
        exact q _ s1
      · have h1 : many ts = ts.length := by
          have : (many ts : Int) = (ts.length : Int) := by simpa using hm
          omega
        rw [decide_eq_true h1, Bool.true_and] at q
        refine ⟨_, rfl, _, rfl, ⟨_, s1.seq ha⟩, fun D hD => ?_⟩
        refine comp_s (capv := []) (L := ts.map V.int) (by rfl) (gives_list K a (ts.map V.int)) (by rw [List.length_map]; exact big hl) hD ?_ (fun _ => true) (fun v => match v with | .int t => .bl (inR t) | _ => .non) ?_ ?_ ?_
        · exact fun H' s' => (s1.trans s').seq ha
        · exact fun v hv H' R s' h => h H' (Same.refl _)
        · intro v hv _ H' R s' h
          obtain ⟨t, ht, rfl⟩ := List.mem_map.mp hv
          have h := h H' (Same.refl _)
          have h : R (.bl (decide (0 ≤ t) && decide (t ≤ 7))) H' := h
          refine ⟨_, rfl, _, _, rfl, rfl, _, rfl, ?_⟩
          cases e : decide (0 ≤ t) with
          | false =>
            rw [e] at h
            exact iteF h
          | true =>
            rw [e] at h
            exact iteT ⟨_, _, rfl, rfl, h⟩
        · intro H' s' e
          refine ⟨_, ts.map inR, rfl, ?_, ?_⟩
          · refine SqL.of ?_
            rw [e]
            congr 2
            rw [List.filter_eq_self.mpr (fun _ _ => rfl), List.map_map, List.map_map]
            rfl
          · have := q H' (s1.trans s')
            rw [List.all_map]
            exact this
/-! ### the book -/
theorem lk_combs {d l : V} : ([("combs", d), ("past", l)] : List (Str × V)).lookup (Str.ofString "combs") = some d := rfl
theorem lk_past {d l : V} : ([("combs", d), ("past", l)] : List (Str × V)).lookup (Str.ofString "past") = some l := rfl
theorem putF_combs {y d l : V} : putF (Str.ofString "combs") y [("combs", d), ("past", l)] = [(Str.ofString "combs", y), (Str.ofString "past", l)] := by
  unfold putF
  rw [if_pos rfl]
theorem putF_new {y : V} : putF (Str.ofString "combs") y [] = [(Str.ofString "combs", y)] := rfl
theorem putF_past {y d : V} : putF (Str.ofString "past") y [("combs", d)] = [(Str.ofString "combs", d), (Str.ofString "past", y)] := by
  have h : ¬ (Str.ofString "combs" = Str.ofString "past") := by decide +kernel
  unfold putF
  rw [if_neg h]
  rfl
theorem two_len {a b : Str × V} : [a, b].length < 1000 := show 2 < 1000 by decide
def sp_check (ea : Nat → Addr) (C : Addr) : Sp := fun vs H Q E => ∃ b l G cs past x, vs = [.ref b, .str x] ∧ Bk C G H b l cs past ∧ (if (cGet cs x).isSome = true then Q .non H else E (.ref (ea 4)) none H)
theorem sc_Book_check_comb : FnScope ["self", "name"] ["self", "name"] (defScope s_Book_check_comb) := ⟨rfl, rfl, rfl, by decide +kernel, rfl, by decide +kernel, by decide +kernel⟩
theorem ok_check {ea : Nat → Addr} {C : Addr} (D : MethAt K C "Book" "check_comb" s_Book_check_comb) (T : Bn mg) (BA : BookAt K C) (O_NoComb : Err K mg "NoComb" (ea 4)) : Method P w K mg base C "check_comb" (CX1 P w) 1 ["self", "name"] (sp_check ea C) := by
  refine D.meth1 sc_Book_check_comb (fun _ _ _ _ _ _ us hl => match us, hl with | [_, _], _ => rfl) (fun vs H Q E h => ?_) (fun f cdv A outer s H vs Q E hr h => ?_)
  · obtain ⟨b, l, G, cs, past, x, rfl, _⟩ := h
    rfl
  · obtain ⟨b, l, G, cs, past, x, rfl, B, q⟩ := h
    have S := sc_Book_check_comb
    have hu := hu_of hr
    obtain ⟨dx, d, hb, gd, kvs, hd, kr⟩ := B.ins
    refine ⟨_, pss_one (ps_if (pt_cmp (pc_dnotin hu (pv 1) (pe_fld (pv 0) rfl)))
      (pss_one (ps_raise O_NoComb rfl (pa_cons (pe_str) pa_nil)))
      (pss_nil)), ?_⟩
    refine ⟨_, rfl, _, rfl, _, _, _, _, _, rfl, hb, BA.cls, BA.nc, lk_combs, d, _, rfl, DGet.k (k := Sum.inr x) hd, _, rfl, ?_⟩
    rw [kr.some]
    cases e : (cGet cs x).isSome with
    | false =>
      rw [e] at q
      exact iteT ⟨bigr rfl, q⟩
    | true =>
      rw [e] at q
      exact iteF q
def sp_do (ea : Nat → Addr) (C : Addr) : Sp := fun vs H Q E => ∃ b l G cs past d D cs', vs = [.ref b, .ref d] ∧ Bk C G H b l cs past ∧ DictR D H d cs' ∧ Good cs' ∧ (∀ x, D x → x ≠ b ∧ x ≠ l ∧ H x ≠ none) ∧
  (if 300 ≤ past.length then E (.ref (ea 9)) none H else ∀ H', (∀ a, a ≠ b → a ≠ l → H' a = H a) → Bk C (fun a => G a ∨ D a) H' b l cs' (past ++ [cs]) → Q (.int ((past.length : Int) + 1)) H')
theorem sc_Book_do_deed : FnScope ["self", "combs"] ["self", "combs"] (defScope s_Book_do_deed) := ⟨rfl, rfl, rfl, by decide +kernel, rfl, by decide +kernel, by decide +kernel⟩
theorem ok_do {ea : Nat → Addr} {C : Addr} (D : MethAt K C "Book" "do_deed" s_Book_do_deed) (T : Bn mg) (BA : BookAt K C) (V_MOST_DEEDS : ∃ t, mg "MOST_DEEDS" = some (.int 300 t)) (O_DeedsFull : Err K mg "DeedsFull" (ea 9)) : Method P w K mg base C "do_deed" (CX1 P w) 1 ["self", "combs"] (sp_do ea C) := by
  refine D.meth1 sc_Book_do_deed (fun _ _ _ _ _ _ us hl => match us, hl with | [_, _], _ => rfl) (fun vs H Q E h => ?_) (fun f cdv A outer s H vs Q E hr h => ?_)
  · obtain ⟨b, l, G, cs, past, d, D, cs', rfl, _⟩ := h
    rfl
  · obtain ⟨b, l, G, cs, past, d1, Dd, cs', rfl, B, dr, gd', nD, q⟩ := h
    have S := sc_Book_do_deed
    have hu := hu_of hr
    obtain ⟨dx, d, hb, dr0⟩ := B.ins
    obtain ⟨vs, hl, pr⟩ := B.lst
    have hlen := pr.length
    have hbl : b ≠ l := ne_of hb hl (by intro z; cases z)
    refine ⟨_, pss_cons (ps_if (pt_cmpR op_ge (pe_callB call_len_seq rfl T.n_len PySem.boot_len (pa_cons (pe_fld (pv 0) rfl) pa_nil)) (pe_gint rfl V_MOST_DEEDS) (nomark _))
      (pss_one (ps_raise O_DeedsFull rfl (pa_cons (pe_str) pa_nil)))
      (pss_nil))
    (pss_cons (ps_expr (pe_bm PySem.F.plainAttrs_list PySem.F.slot_list_append PySem.F.type_list_append mt_append (pe_fld (pv 0) rfl) (pa_cons (pe_fld (pv 0) rfl) pa_nil)))
    (pss_cons (ps_fld (pv 0) (pv 1) rfl)
    (pss_one (ps_ret (pe_callB call_len_seq rfl T.n_len PySem.boot_len (pa_cons (pe_fld (pv 0) rfl) pa_nil)))))), ?_⟩
    refine ⟨_, rfl, _, _, _, _, _, rfl, hb, BA.cls, BA.np, lk_past, _, _, rfl, .inl (SqL.of hl), _, _, rfl, rfl, _, rfl, ?_⟩
    refine ite2 (fun hc => ?_) (fun hc => ?_)
    · have h300 : 300 ≤ past.length := by
        have : (300 : Int) ≤ (vs.length : Int) := by simpa using hc
        omega
      rw [if_pos h300] at q
      exact ⟨bigr rfl, q⟩
    · have h300 : ¬ 300 ≤ past.length := by
        have : ¬ (300 : Int) ≤ (vs.length : Int) := by simpa using hc
        omega
      rw [if_neg h300] at q
      refine ⟨_, rfl, _, _, _, _, _, rfl, hb, BA.cls, BA.np, lk_past, .inl ⟨rfl, _, SqL.of hl⟩, _, rfl, _, _, _, _, _, rfl, hb, BA.cls, BA.nc, lk_combs, _, _, _, rfl, rfl, hl, ?_, ?_⟩
      · exact Nat.lt_of_lt_of_le (by omega : vs.length < 1000) sizeBig
      have hb1 : upd H l (.lst (vs ++ [.ref d])) b = some (.ins C dx [("combs", .ref d), ("past", .ref l)]) := by rw [upd_ne hbl]; exact hb
      refine ⟨_, rfl, _, rfl, _, _, _, _, rfl, hb1, BA.cls, BA.nc, two_len, ?_⟩
      rw [putF_combs]
      have hb2 : upd (upd H l (.lst (vs ++ [.ref d]))) b (.ins C dx [("combs", .ref d1), ("past", .ref l)]) b = some (.ins C dx [("combs", .ref d1), ("past", .ref l)]) := upd_same
      have hl2 : upd (upd H l (.lst (vs ++ [.ref d]))) b (.ins C dx [("combs", .ref d1), ("past", .ref l)]) l = some (.lst (vs ++ [.ref d])) := by rw [upd_ne (Ne.symm hbl), upd_same]
      have off : ∀ a, a ≠ b → a ≠ l → upd (upd H l (.lst (vs ++ [.ref d]))) b (.ins C dx [("combs", .ref d1), ("past", .ref l)]) a = H a := fun a n1 n2 => by rw [upd_ne n1, upd_ne n2]
      generalize upd (upd H l (.lst (vs ++ [.ref d]))) b (.ins C dx [("combs", .ref d1), ("past", .ref l)]) = H2 at hb2 hl2 off
      refine ⟨_, rfl, _, _, _, _, _, rfl, hb2, BA.cls, BA.np, lk_past, _, _, rfl, .inl (SqL.of hl2), ?_⟩
      rw [List.length_append, List.length_singleton, hlen]
      have sG : ∀ a o, G a → H a = some o → H2 a = some o := fun a o g e => (off a (fun z => B.nb (z ▸ g)) (fun z => B.nl (z ▸ g))).trans e
      have sD : ∀ a o, Dd a → H a = some o → H2 a = some o := fun a o g e => (off a (nD a g).1 (nD a g).2.1).trans e
      refine q H2 off ⟨?_, ?_, ?_, ⟨dx, d1, hb2, dr.mono sD fun _ g => .inr g⟩, ⟨_, hl2, ?_⟩, gd', ?_, ?_⟩
      · rintro x (g | g)
        · rw [off x (fun z => B.nb (z ▸ g)) (fun z => B.nl (z ▸ g))]; exact B.live x g
        · rw [off x (nD x g).1 (nD x g).2.1]; exact (nD x g).2.2
      · rintro (g | g)
        · exact B.nb g
        · exact (nD b g).1 rfl
      · rintro (g | g)
        · exact B.nl g
        · exact (nD l g).2.1 rfl
      · exact Paired.snoc (Paired.mono (fun _ _ ⟨d, e, r⟩ => ⟨d, e, r.mono sG fun _ g => .inl g⟩) pr) ⟨d, rfl, dr0.mono sG fun _ g => .inl g⟩
      · intro p hp
        rcases List.mem_append.mp hp with z | z
        · exact B.goods p z
        · rw [List.mem_singleton.mp z]; exact B.good
      · rw [List.length_append, List.length_singleton]; omega
def sp_deeds (C : Addr) : Sp := fun vs H Q _ => ∃ b l G cs past, vs = [.ref b] ∧ Bk C G H b l cs past ∧ Q (.int (past.length : Int)) H
theorem sc_Book_deeds : FnScope ["self"] ["self"] (defScope s_Book_deeds) := ⟨rfl, rfl, rfl, by decide +kernel, rfl, by decide +kernel, by decide +kernel⟩
theorem ok_deeds {C : Addr} (D : MethAt K C "Book" "deeds" s_Book_deeds) (T : Bn mg) (BA : BookAt K C) : Method P w K mg base C "deeds" CX0 1 ["self"] (sp_deeds C) := by
  refine D.meth0 sc_Book_deeds (fun _ _ _ _ _ _ us hl => match us, hl with | [_], _ => rfl) (fun vs H Q E h => ?_) (fun f cdv A outer s H vs Q E hr h => ?_)
  · obtain ⟨b, l, G, cs, past, rfl, _⟩ := h
    rfl
  · obtain ⟨b, l, G, cs, past, rfl, B, q⟩ := h
    have S := sc_Book_deeds
    obtain ⟨dx, d, hb, dr0⟩ := B.ins
    obtain ⟨vs, hl, pr⟩ := B.lst
    refine ⟨_, pss_one (ps_ret (pe_callB call_len_seq rfl T.n_len PySem.boot_len (pa_cons (pe_fld (pv 0) rfl) pa_nil))), ?_⟩
    refine ⟨_, rfl, _, _, _, _, _, rfl, hb, BA.cls, BA.np, lk_past, _, _, rfl, .inl (SqL.of hl), ?_⟩
    rw [pr.length]
    exact q
def sp_names (C : Addr) : Sp := fun vs H Q _ => ∃ b l G cs past, vs = [.ref b] ∧ Bk C G H b l cs past ∧ ∀ p (nm : List Str), H p = none → nm.Perm (cs.map (·.1)) → sortedS nm = true → Q (.ref p) (upd H p (.lst (nm.map V.str)))
theorem sc_Book_names : FnScope ["self"] ["self"] (defScope s_Book_names) := ⟨rfl, rfl, rfl, by decide +kernel, rfl, by decide +kernel, by decide +kernel⟩
theorem ok_names {C : Addr} (D : MethAt K C "Book" "names" s_Book_names) (T : Bn mg) (BA : BookAt K C) : Method P w K mg base C "names" CX0 1 ["self"] (sp_names C) := by
  refine D.meth0 sc_Book_names (fun _ _ _ _ _ _ us hl => match us, hl with | [_], _ => rfl) (fun vs H Q E h => ?_) (fun f cdv A outer s H vs Q E hr h => ?_)
  · obtain ⟨b, l, G, cs, past, rfl, _⟩ := h
    rfl
  · obtain ⟨b, l, G, cs, past, rfl, B, q⟩ := h
    have S := sc_Book_names
    obtain ⟨dx, d, hb, gd, kvs, hd, kr⟩ := B.ins
    refine ⟨_, pss_one (ps_ret (pe_callB (call_sortedD rfl) rfl T.n_sorted boot_sorted (pa_cons (pe_fld (pv 0) rfl) pa_nil))), ?_⟩
    refine ⟨_, rfl, _, _, _, _, _, rfl, hb, BA.cls, BA.nc, lk_combs, d, kvs, cs.map (·.1), rfl, .inl hd, kr.keys, ?_, q⟩
    rw [List.length_map]
    have := B.good.len
    omega
def sp_bteeth (ea : Nat → Addr) (C : Addr) : Sp := fun vs H Q E => ∃ b l G cs past x, vs = [.ref b, .str x] ∧ Bk C G H b l cs past ∧ (match cGet cs x with | some ts => ∀ p, H p = none → Q (.ref p) (upd H p (.lst (ts.map V.int))) | none => E (.ref (ea 4)) none H)
theorem sc_Book_teeth : FnScope ["self", "name"] ["self", "name"] (defScope s_Book_teeth) := ⟨rfl, rfl, rfl, by decide +kernel, rfl, by decide +kernel, by decide +kernel⟩
theorem ok_bteeth {ea : Nat → Addr} {C : Addr} (D : MethAt K C "Book" "teeth" s_Book_teeth) (T : Bn mg) (BA : BookAt K C) (M_check_comb : Method P w K mg base C "check_comb" (CX1 P w) 1 ["self", "name"] (sp_check ea C)) : Method P w K mg base C "teeth" (CX1 P w) 2 ["self", "name"] (sp_bteeth ea C) := by
  refine D.meth1 sc_Book_teeth (fun _ _ _ _ _ _ us hl => match us, hl with | [_, _], _ => rfl) (fun vs H Q E h => ?_) (fun f cdv A outer s H vs Q E hr h => ?_)
  · obtain ⟨b, l, G, cs, past, x, rfl, _⟩ := h
    rfl
  · obtain ⟨b, l, G, cs, past, x, rfl, B, q⟩ := h
    have S := sc_Book_teeth
    have hu := hu_of hr
    have B_cls := BA.cls
    obtain ⟨dx, d, hb, gd, kvs, hd, kr⟩ := id B.ins
    refine ⟨_, pss_cons (ps_expr (pe_mt (pv 0) B_cls M_check_comb (hr.mono (by decide)) (by first | exact pass0 | exact pass_try | exact pass1 | exact pass_E0) (pa_cons (pv 1) pa_nil)))
    (pss_one (ps_ret (pe_callTy call_list_of rfl T.n_list boot_list (pa_cons (pe_dget hu (pe_fld (pv 0) rfl) (pv 1) (fun _ _ => rfl)) pa_nil)))), ?_⟩
    refine ⟨_, rfl, _, _, _, rfl, hb, rfl, _, rfl, b, l, G, cs, past, x, rfl, B, ?_⟩
    rcases kr.val (x := x) with ⟨e1, e2⟩ | ⟨ts, t, e1, e2, e3, e4⟩
    · rw [e1] at q ⊢
      exact q
    · rw [e1] at q ⊢
      refine iteT ?_
      refine ⟨_, rfl, _, _, _, _, _, rfl, hb, BA.cls, BA.nc, lk_combs, _, rfl, d, _, rfl, ?_, _, _, rfl, .inl (SqL.of e3), q⟩
      rw [← e2]
      exact DGet.k (k := Sum.inr x) hd
def sp_init (C : Addr) : Sp := fun vs H Q _ => ∃ b dx, vs = [.ref b] ∧ H b = some (.ins C dx []) ∧ ∀ H' l d, Mv b b (fun _ => False) (fun a => a = d) H H' → H l = none → H d = none → Bk C (fun a => a = d) H' b l [] [] → Q .non H'
theorem sc_Book___init__ : FnScope ["self"] ["self"] (defScope s_Book___init__) := ⟨rfl, rfl, rfl, by decide +kernel, rfl, by decide +kernel, by decide +kernel⟩
theorem ok_init {C : Addr} {f : Addr} {fd : FuncData} (F : Fun K "__init__" "Book.__init__" s_Book___init__ f fd) (T : Bn mg) (BA : BookAt K C) : FnOk P w K mg base CX0 1 f fd ["self"] (sp_init C) := by
  refine F.ok sc_Book___init__ (fun vs H Q E h => ?_) (fun cdv A outer s H vs Q E hr h => ?_)
  · obtain ⟨b, dx, rfl, _⟩ := h
    rfl
  · obtain ⟨b, dx, rfl, hb, q⟩ := h
    have S := sc_Book___init__
    refine ⟨_, pss_cons (ps_fld (pv 0) (pe_dnewK) rfl)
    (pss_one (ps_fld (pv 0) (pe_lst (pa_nil)) rfl)), ?_⟩
    refine fun d nd => ?_
    have hbd : b ≠ d := ne_of_none hb nd
    have hb1 : upd H d (.dK []) b = some (.ins C dx []) := by rw [upd_ne hbd]; exact hb
    refine ⟨_, rfl, _, _, _, _, rfl, hb1, BA.cls, BA.nc, by decide, ?_⟩
    rw [putF_new]
    refine ⟨bigr rfl, fun l nl => ?_⟩
    have hbl : b ≠ l := fun z => by rw [← z, upd_same] at nl; cases nl
    have nl1 : upd H d (.dK []) l = none := by rw [upd_ne (Ne.symm hbl)] at nl; exact nl
    have hdl : d ≠ l := fun z => by rw [← z, upd_same] at nl1; cases nl1
    have hln : H l = none := by rw [upd_ne (Ne.symm hdl)] at nl1; exact nl1
    have hb2 : upd (upd (upd H d (.dK [])) b (.ins C dx [(Str.ofString "combs", V.ref d)])) l (.lst []) b = some (.ins C dx [("combs", .ref d)]) := by rw [upd_ne hbl, upd_same]
    refine ⟨_, rfl, _, _, _, _, rfl, hb2, BA.cls, BA.np, (show 1 < 1000 by decide), ?_⟩
    rw [putF_past]
    have hb3 : upd (upd (upd (upd H d (.dK [])) b (.ins C dx [(Str.ofString "combs", V.ref d)])) l (.lst [])) b (.ins C dx [(Str.ofString "combs", V.ref d), (Str.ofString "past", V.ref l)]) b = some (.ins C dx [("combs", .ref d), ("past", .ref l)]) := upd_same
    have hd3 : upd (upd (upd (upd H d (.dK [])) b (.ins C dx [(Str.ofString "combs", V.ref d)])) l (.lst [])) b (.ins C dx [(Str.ofString "combs", V.ref d), (Str.ofString "past", V.ref l)]) d = some (.dK []) := by
      rw [upd_ne (Ne.symm hbd), upd_ne hdl, upd_ne (Ne.symm hbd), upd_same]
    have hl3 : upd (upd (upd (upd H d (.dK [])) b (.ins C dx [(Str.ofString "combs", V.ref d)])) l (.lst [])) b (.ins C dx [(Str.ofString "combs", V.ref d), (Str.ofString "past", V.ref l)]) l = some (.lst []) := by
      rw [upd_ne (Ne.symm hbl), upd_same]
    have off : ∀ a o, H a = some o → a ≠ b → upd (upd (upd (upd H d (.dK [])) b (.ins C dx [(Str.ofString "combs", V.ref d)])) l (.lst [])) b (.ins C dx [(Str.ofString "combs", V.ref d), (Str.ofString "past", V.ref l)]) a = some o := fun a o e n => by
      rw [upd_ne n, upd_ne (ne_of_none e hln), upd_ne n, upd_ne (ne_of_none e nd)]; exact e
    generalize upd (upd (upd (upd H d (.dK [])) b (.ins C dx [(Str.ofString "combs", V.ref d)])) l (.lst [])) b (.ins C dx [(Str.ofString "combs", V.ref d), (Str.ofString "past", V.ref l)]) = H3 at hb3 hd3 hl3 off
    refine q H3 l d ⟨fun a o e n _ => off a o e n, fun a h => ?_, fun a g => .inr (by rw [g]; exact nd)⟩ hln nd ⟨fun x g => ?_, hbd, fun z => hdl z.symm, ⟨dx, d, hb3, rfl, [], hd3, .nil⟩, ⟨[], hl3, .nil⟩, good_nil, by simp, by decide⟩
    · by_cases z : a = b
      · rw [z, hb3]; simp
      · cases e : H a with
        | none => exact absurd e h
        | some o => rw [off a o e z]; simp
    · rw [show x = d from g, hd3]; simp
def sp_set (ea : Nat → Addr) (C : Addr) : Sp := fun vs H Q E => ∃ b l G cs past x a ts, vs = [.ref b, .str x, .ref a] ∧ Bk C G H b l cs past ∧ SqL K H a (ts.map V.int) ∧ areTeeth ts = true ∧ isName x = true ∧ (cs.length < 8 ∨ (cGet cs x).isSome = true) ∧ Deed ea C G H b l cs past Q E (full past (cPut cs x (canon ts)))
theorem sc_Book_set_comb : FnScope ["self", "name", "teeth", "combs"] ["self", "name", "teeth"] (defScope s_Book_set_comb) := ⟨rfl, rfl, rfl, by decide +kernel, rfl, by decide +kernel, by decide +kernel⟩
theorem ok_set {ea : Nat → Addr} {C : Addr} (D : MethAt K C "Book" "set_comb" s_Book_set_comb) (T : Bn mg) (BA : BookAt K C) (M_do_deed : Method P w K mg base C "do_deed" (CX1 P w) 1 ["self", "combs"] (sp_do ea C)) : Method P w K mg base C "set_comb" (CX1 P w) 2 ["self", "name", "teeth"] (sp_set (K := K) ea C) := by
  refine D.meth1 sc_Book_set_comb (fun _ _ _ _ _ _ us hl => match us, hl with | [_, _, _], _ => rfl) (fun vs H Q E h => ?_) (fun f cdv A outer s H vs Q E hr h => ?_)
  · obtain ⟨b, l, G, cs, past, x, a, ts, rfl, _⟩ := h
    rfl
  · obtain ⟨b, l, G, cs, past, x, a, ts, rfl, B, ha, ht, hx, hn, q⟩ := h
    have S := sc_Book_set_comb
    have hu := hu_of hr
    have B_cls := BA.cls
    obtain ⟨t0, tn, tr⟩ := teeth_iff.mp ht
    obtain ⟨dx, d, hb, gd, kvs, hd, kr⟩ := id B.ins
    refine ⟨_, pss_cons (ps_set (i := 3) S.nd rfl (Or.inl rfl) (pe_callTy call_dictD rfl T.n_dict boot_dict (pa_cons (pe_fld (pv 0) rfl) pa_nil)))
    (pss_cons (ps_dput hu (pv 3) (pv 1) (pe_callB call_sortedI rfl T.n_sorted boot_sorted (pa_cons (pv 2) pa_nil)) rfl)
    (pss_one (ps_ret (pe_mt (pv 0) B_cls M_do_deed (hr.mono (by decide)) (by first | exact pass0 | exact pass_try | exact pass1 | exact pass_E0) (pa_cons (pv 3) pa_nil))))), ?_⟩
    refine ⟨_, rfl, _, _, _, _, _, rfl, hb, BA.cls, BA.nc, lk_combs, d, kvs, rfl, .inl hd, fun p np => ?_⟩
    have s1 : Same H (upd H p (.dK kvs)) := Same.new np
    refine ⟨_, rfl, a, ts, rfl, s1.seq ha, ?_, fun r ns nr hp hs => ?_⟩
    · have := teeth_len tn tr
      omega
    have hc := canon_of hp hs tn tr
    subst hc
    have npr : p ≠ r := fun z => by rw [← z, upd_same] at nr; cases nr
    have hr0 : H r = none := s1.free nr
    have s2 : Same H (upd (upd H p (.dK kvs)) r (.lst ((canon ts).map V.int))) := s1.put hr0
    have hp2 : upd (upd H p (.dK kvs)) r (.lst ((canon ts).map V.int)) p = some (.dK kvs) := by rw [upd_ne npr, upd_same]
    have hkl : kvs.length < sizeLine := by
      have := kr.length
      have := B.good.len
      exact Nat.lt_of_lt_of_le (by omega : kvs.length < 1000) sizeBig
    refine ⟨_, rfl, _, rfl, p, _, rfl, DPut.k (k := Sum.inr x) hp2 hkl, ?_⟩
    have s3 : Same H (upd (upd (upd H p (.dK kvs)) r (.lst ((canon ts).map V.int))) p (.dK (putK kvs (Sum.inr x) (.ref r)))) := s2.put np
    have hr3 : upd (upd (upd H p (.dK kvs)) r (.lst ((canon ts).map V.int))) p (.dK (putK kvs (Sum.inr x) (.ref r))) r = some (.lst ((canon ts).map V.int)) := by rw [upd_ne (Ne.symm npr), upd_same]
    have hp3 : upd (upd (upd H p (.dK kvs)) r (.lst ((canon ts).map V.int))) p (.dK (putK kvs (Sum.inr x) (.ref r))) p = some (.dK (putK kvs (Sum.inr x) (.ref r))) := upd_same
    generalize upd (upd (upd H p (.dK kvs)) r (.lst ((canon ts).map V.int))) p (.dK (putK kvs (Sum.inr x) (.ref r))) = H3 at s3 hr3 hp3
    have B3 := B.same s3
    obtain ⟨lb, ll⟩ := B.liveB
    refine ⟨_, rfl, b, dx, _, rfl, s3 _ _ hb, rfl, _, rfl, b, l, G, cs, past, p, fun a => G a ∨ a = p ∨ a = r, cPut cs x (canon ts), rfl, B3, ⟨.inr (.inl rfl), _, hp3, ?_⟩, B.good.put hx (gt_canon t0) hn, ?_, ?_⟩
    · exact (kr.mono (fun a o _ e => s3 a o e) fun _ g => .inl g).put hr3 (.inr (.inr rfl))
    · rintro y (g | g | g)
      · exact ⟨fun z => B.nb (z ▸ g), fun z => B.nl (z ▸ g), B3.live y g⟩
      · subst g
        exact ⟨fun z => lb (z ▸ np), fun z => ll (z ▸ np), by rw [hp3]; simp⟩
      · subst g
        exact ⟨fun z => lb (z ▸ hr0), fun z => ll (z ▸ hr0), by rw [hr3]; simp⟩
    · unfold full at q
      by_cases h3 : 300 ≤ past.length
      · rw [if_pos h3] at q ⊢
        exact q H3 s3
      · rw [if_neg h3] at q ⊢
        intro H4 off B4
        refine q H4 _ ⟨fun a o e n1 n2 => (off a n1 n2).trans (s3 a o e), fun a h => ?_, fun a g => ?_⟩ B4
        · obtain ⟨lb4, ll4⟩ := B4.liveB
          by_cases z : a = b
          · rw [z]; exact lb4
          · by_cases z2 : a = l
            · rw [z2]; exact ll4
            · rw [off a z z2]; exact live_same s3 a h
        · rcases g with g | g | g | g
          · exact .inl g
          · exact .inl g
          · rw [g]; exact .inr np
          · rw [g]; exact .inr hr0
def sp_put (ea : Nat → Addr) (C : Addr) : Sp := fun vs H Q E => ∃ b l G cs past x a ts, vs = [.ref b, .str x, .ref a] ∧ Bk C G H b l cs past ∧ SqL K H a (ts.map V.int) ∧ x.length ≤ sizeLine ∧ ts.length ≤ 1000 ∧ Deed ea C G H b l cs past Q E (putD cs past x ts)
theorem sc_Book_put : FnScope ["self", "name", "teeth"] ["self", "name", "teeth"] (defScope s_Book_put) := ⟨rfl, rfl, rfl, by decide +kernel, rfl, by decide +kernel, by decide +kernel⟩
theorem ok_put {ea : Nat → Addr} {C : Addr} (D : MethAt K C "Book" "put" s_Book_put) (T : Bn mg) (BA : BookAt K C) (V_MOST_COMBS : ∃ t, mg "MOST_COMBS" = some (.int 8 t)) (O_BadName : Err K mg "BadName" (ea 0)) (O_BadTeeth : Err K mg "BadTeeth" (ea 1)) (O_NameTaken : Err K mg "NameTaken" (ea 2)) (O_BookFull : Err K mg "BookFull" (ea 3))
    (C_is_name : Callee P w K mg base "is_name" 2 ["text"] sp_name) (C_are_teeth : Callee P w K mg base "are_teeth" 1 ["teeth"] (sp_teeth K)) (M_set_comb : Method P w K mg base C "set_comb" (CX1 P w) 2 ["self", "name", "teeth"] (sp_set (K := K) ea C)) : Method P w K mg base C "put" (CX1 P w) 3 ["self", "name", "teeth"] (sp_put (K := K) ea C) := by
  refine D.meth1 sc_Book_put (fun _ _ _ _ _ _ us hl => match us, hl with | [_, _, _], _ => rfl) (fun vs H Q E h => ?_) (fun f cdv A outer s H vs Q E hr h => ?_)
  · obtain ⟨b, l, G, cs, past, x, a, ts, rfl, _⟩ := h
    rfl
  · obtain ⟨b, l, G, cs, past, x, a, ts, rfl, B, ha, hxl, htl, q⟩ := h
    have S := sc_Book_put
    have hu := hu_of hr
    have B_cls := BA.cls
    unfold putD at q
    refine ⟨_, pss_cons (ps_if (pt_not (pt_val (pe_fn C_is_name (hr.mono (by decide)) rfl (pa_cons (pv 1) pa_nil))))
      (pss_one (ps_raise O_BadName rfl (pa_cons (pe_str) pa_nil)))
      (pss_nil))
    (pss_cons (ps_if (pt_not (pt_val (pe_fn C_are_teeth (hr.mono (by decide)) rfl (pa_cons (pv 2) pa_nil))))
      (pss_one (ps_raise O_BadTeeth rfl (pa_cons (pe_str) pa_nil)))
      (pss_nil))
    (pss_cons (ps_if (pt_cmp (pc_din hu (pv 1) (pe_fld (pv 0) rfl)))
      (pss_one (ps_raise O_NameTaken rfl (pa_cons (pe_str) pa_nil)))
      (pss_nil))
    (pss_cons (ps_if (pt_cmpR op_ge (pe_callB call_lenD rfl T.n_len PySem.boot_len (pa_cons (pe_fld (pv 0) rfl) pa_nil)) (pe_gint rfl V_MOST_COMBS) (nomark _))
      (pss_one (ps_raise O_BookFull rfl (pa_cons (pe_str) pa_nil)))
      (pss_nil))
    (pss_one (ps_ret (pe_mt (pv 0) B_cls M_set_comb (hr.mono (by decide)) (by first | exact pass0 | exact pass_try | exact pass1 | exact pass_E0) (pa_cons (pv 1) (pa_cons (pv 2) pa_nil)))))))), ?_⟩
    refine ⟨_, rfl, x, rfl, hxl, fun H1 s1 => ⟨_, rfl, ?_⟩⟩
    cases e1 : isName x with
    | false =>
      rw [e1, if_pos rfl] at q
      exact iteT ⟨bigr rfl, q H1 s1⟩
    | true =>
      rw [e1, if_neg (by decide)] at q
      refine iteF ?_
      refine ⟨_, rfl, a, ts, rfl, s1.seq ha, htl, fun H2 s2 => ⟨_, rfl, ?_⟩⟩
      have s12 := s1.trans s2
      cases e2 : areTeeth ts with
      | false =>
        rw [e2, if_pos rfl] at q
        exact iteT ⟨bigr rfl, q H2 s12⟩
      | true =>
        rw [e2, if_neg (by decide)] at q
        refine iteF ?_
        have B2 := B.same s12
        obtain ⟨dx, d, hb, gd, kvs, hd, kr⟩ := id B2.ins
        refine ⟨_, rfl, _, rfl, _, _, _, _, _, rfl, hb, BA.cls, BA.nc, lk_combs, d, _, rfl, DGet.k (k := Sum.inr x) hd, _, rfl, ?_⟩
        rw [kr.some]
        cases e3 : (cGet cs x).isSome with
        | true =>
          rw [e3, if_pos rfl] at q
          exact iteT ⟨bigr rfl, q H2 s12⟩
        | false =>
          rw [e3, if_neg (by decide)] at q
          refine iteF ?_
          refine ⟨_, rfl, _, _, _, _, _, rfl, hb, BA.cls, BA.nc, lk_combs, _, _, rfl, hd, _, _, rfl, rfl, _, rfl, ?_⟩
          rw [kr.length]
          refine ite2 (fun hc => ?_) (fun hc => ?_)
          · have h8 : 8 ≤ cs.length := by
              have : (8 : Int) ≤ (cs.length : Int) := by simpa using hc
              omega
            rw [if_pos h8] at q
            exact ⟨bigr rfl, q H2 s12⟩
          · have h8 : ¬ 8 ≤ cs.length := by
              have : ¬ (8 : Int) ≤ (cs.length : Int) := by simpa using hc
              omega
            rw [if_neg h8] at q
            exact ⟨_, rfl, b, dx, _, rfl, hb, rfl, _, rfl, _, rfl, b, l, G, cs, past, x, a, ts, rfl, B2, s12.seq ha, e2, e1, .inl (by omega), q.from s12⟩
def worths : List Int := [1, 2, 4, 8, 16, 32, 64, 128]
theorem at_worths {t : Int} (h0 : 0 ≤ t) (h7 : t ≤ 7) : atI (worths.map V.int) t = some (.int (pw t)) := by
  have : t = 0 ∨ t = 1 ∨ t = 2 ∨ t = 3 ∨ t = 4 ∨ t = 5 ∨ t = 6 ∨ t = 7 := by omega
  rcases this with h | h | h | h | h | h | h | h <;> subst h <;> rfl
def sp_worth (K : PySem.W.Frag) : Sp := fun vs H Q _ => ∃ (a : Addr) (ts : List Int), vs = [.ref a] ∧ SqL K H a (ts.map V.int) ∧ (∀ t ∈ ts, 0 ≤ t ∧ t ≤ 7) ∧ ts.length ≤ 1000 ∧ ∀ H', Same H H' → Q (.int (worth ts)) H'
theorem sc_teeth_worth : FnScope ["teeth"] ["teeth"] (defScope s_teeth_worth) := ⟨rfl, rfl, rfl, by decide +kernel, rfl, by decide +kernel, by decide +kernel⟩
theorem ok_worth {tw : Addr} (D : DefAt K mg "teeth_worth" s_teeth_worth) (T : Bn mg) (G_TOOTH_WORTH : mg "TOOTH_WORTH" = some (.ref tw)) (HTW : ∀ H, SqT K H tw (worths.map V.int)) : Callee P w K mg base "teeth_worth" 1 ["teeth"] (sp_worth K) := by
  refine D.callee sc_teeth_worth (fun _ _ _ _ _ _ us hl => match us, hl with | [_], _ => rfl) (fun vs H Q E h => ?_) (fun f cdv A outer s H vs Q E hr h => ?_)
  · obtain ⟨a, ts, rfl, _⟩ := h
    rfl
  · obtain ⟨a, ts, rfl, ha, hr7, hl, q⟩ := h
    have S := sc_teeth_worth
    refine ⟨_, pss_one (ps_ret (pe_callB (call_sum1 rfl) rfl T.n_sum boot_sum (pa_cons (pe_comp (own := ["tooth"]) (caps := []) rfl ⟨rfl, rfl, rfl, rfl, trivial⟩ (pi_list (pv 0)) (fun _ _ _ _ _ _ => pg_name (i := 0) (nd_comp (by decide +kernel)) rfl (Or.inl rfl)) (fun _ _ _ _ _ _ => pts_nil) (fun _ _ _ _ _ _ => pe_ix (ix_tup' K rfl) (pe_cls rfl G_TOOTH_WORTH) (pv 0) (fun _ _ => rfl))) pa_nil))), ?_⟩
    refine ⟨_, rfl, _, rfl, ⟨_, ha⟩, fun D hD => ?_⟩
    refine comp_s (capv := []) (L := ts.map V.int) (by rfl) (gives_list K a (ts.map V.int)) (by rw [List.length_map]; exact big hl) hD ?_ (fun _ => true) (fun v => match v with | .int t => .int (pw t) | _ => .non) ?_ ?_ ?_
    · exact fun H' s' => s'.seq ha
    · exact fun v hv H' R s' h => h H' (Same.refl _)
    · intro v hv _ H' R s' h
      obtain ⟨t, ht, rfl⟩ := List.mem_map.mp hv
      have h : R (.int (pw t)) H' := h H' (Same.refl _)
      obtain ⟨h0, h7⟩ := hr7 t ht
      exact ⟨_, rfl, _, _, _, _, rfl, rfl, HTW H', at_worths h0 h7, h⟩
    · intro H' s' e
      refine ⟨_, ts.map pw, rfl, ?_, q H' s'⟩
      refine SqL.of ?_
      rw [e]
      congr 2
      rw [List.filter_eq_self.mpr (fun _ _ => rfl), List.map_map, List.map_map]
      rfl
def sp_steps (ea : Nat → Addr) (C : Addr) : Sp := fun vs H Q E => ∃ b l G cs past n, vs = [.ref b, .int n] ∧ Bk C G H b l cs past ∧
  (if 0 ≤ n ∧ n < 128 then ∀ p H' ws, Same H H' → H p = none → H' p = some (.lst ws) → (∀ nm : List Str, nm.Perm (cs.map (·.1)) → sortedS nm = true → StepsR H' ws (stepsOf (byNames cs nm) n)) → Q (.ref p) H' else E (.ref (ea 11)) none H)
theorem sc_shape_steps : FnScope ["book", "shape", "steps", "name", "worth"] ["book", "shape"] (defScope s_shape_steps) := ⟨rfl, rfl, rfl, by decide +kernel, rfl, by decide +kernel, by decide +kernel⟩
theorem ok_steps {ea : Nat → Addr} {C : Addr} (D : DefAt K mg "shape_steps" s_shape_steps) (T : Bn mg) (BA : BookAt K C) (V_SHAPES : ∃ t, mg "SHAPES" = some (.int 128 t)) (O_BadShape : Err K mg "BadShape" (ea 11)) (C_teeth_worth : Callee P w K mg base "teeth_worth" 1 ["teeth"] (sp_worth K))
    (M_names : Method P w K mg base C "names" CX0 1 ["self"] (sp_names C)) (M_teeth : Method P w K mg base C "teeth" (CX1 P w) 2 ["self", "name"] (sp_bteeth ea C)) : Callee1 P w K mg base "shape_steps" 3 ["book", "shape"] (sp_steps ea C) := by
  refine D.callee1 sc_shape_steps (fun _ _ _ _ _ _ us hl => match us, hl with | [_, _], _ => rfl) (fun vs H Q E h => ?_) (fun f cdv A outer s H vs Q E hr h => ?_)
  · obtain ⟨b, l, G, cs, past, n, rfl, _⟩ := h
    rfl
  · obtain ⟨b, l, G, cs, past, n, rfl, B, q⟩ := h
    have S := sc_shape_steps
    have hu := hu_of hr
    have B_cls := BA.cls
    refine ⟨_, pss_cons (ps_if (pt_not (pt_chain op_le op_lt (pe_int) (pv 1) (pe_gint rfl V_SHAPES)))
      (pss_one (ps_raise O_BadShape rfl (pa_cons (pe_str) pa_nil)))
      (pss_nil))
    (pss_cons (ps_if (pt_cmpR op_eq (pe_op op_mod (pv 1) (pe_int)) (pe_int) (nomark _))
      (pss_one (ps_ret (pe_lst (pa_cons (pe_tup (pa_cons (pe_str) (pa_cons (pe_op op_fdiv (pv 1) (pe_int)) pa_nil))) pa_nil))))
      (pss_nil))
    (pss_cons (ps_set (i := 2) S.nd rfl (Or.inl rfl) (pe_lst (pa_nil)))
    (pss_cons (ps_for PassesOwn.leaving rfl (pi_list (pe_mt0 (pv 0) B_cls M_names (hr.mono (by decide)) (by first | exact pass0 | exact pass_try | exact pass1 | exact pass_E0))) (pg_name (i := 3) S.nd rfl (Or.inl rfl))
      (pss_cons (ps_set (i := 4) S.nd rfl (Or.inl rfl) (pe_fn C_teeth_worth (hr.mono (by decide)) rfl (pa_cons (pe_mt (pv 0) B_cls M_teeth (hr.mono (by decide)) (by first | exact pass0 | exact pass_try | exact pass1 | exact pass_E0) (pa_cons (pv 3) pa_nil)) pa_nil)))
      (pss_one (ps_if (pt_cmpR op_eq (pe_op op_and (pv 1) (pv 4)) (pe_int) (nomark _))
        (pss_one (ps_expr (pe_bm PySem.F.plainAttrs_list PySem.F.slot_list_append PySem.F.type_list_append mt_append (pv 2) (pa_cons (pe_tup (pa_cons (pv 3) (pa_cons (pe_op op_fdiv (pe_op op_add (pv 1) (pv 4)) (pe_int)) pa_nil))) pa_nil))))
        (pss_nil)))))
    (pss_one (ps_ret (pv 2)))))), ?_⟩
    refine ⟨_, rfl, _, _, rfl, rfl, _, rfl, ?_⟩
    refine ite2 (fun h0 => ?_) (fun h0 => ?_)
    rotate_left
    · have h0 : ¬ (0 : Int) ≤ n := by simpa using h0
      rw [if_neg (fun z => h0 z.1)] at q
      exact ⟨_, rfl, iteT ⟨bigr rfl, q⟩⟩
    have h0 : (0 : Int) ≤ n := by simpa using h0
    refine ⟨_, _, rfl, rfl, _, rfl, ?_⟩
    by_cases h1 : n < 128
    case neg =>
      rw [if_neg (fun z => h1 z.2)] at q
      rw [decide_eq_false h1]
      exact iteT ⟨bigr rfl, q⟩
    rw [if_pos ⟨h0, h1⟩] at q
    rw [decide_eq_true h1]
    refine iteF ?_
    have p2 : (0 : Int) < 2 := by decide
    refine ⟨_, rfl, _, _, rfl, rfl, p2, rfl, _, rfl, ?_⟩
    refine ite2 (fun hc => ?_) (fun hc => ?_)
    · have hc : n % 2 = 1 := by simpa using hc
      refine ⟨_, rfl, _, _, rfl, rfl, ⟨p2, by decide⟩, bigr rfl, fun t nt => ⟨bigr rfl, fun p np => ?_⟩⟩
      have s1 : Same H (upd H t (.tup [.str "", .int (n / 2)])) := Same.new nt
      refine q p _ [.ref t] (s1.trans (Same.new np)) (s1.free np) upd_same fun nm _ _ => ?_
      rw [steps_odd hc]
      refine ⟨⟨t, rfl, ?_⟩, trivial⟩
      rw [upd_ne (fun z => by rw [← z, upd_same] at np; cases np)]
      exact upd_same
    · have hc : ¬ n % 2 = 1 := by simpa using hc
      refine ⟨bigr rfl, fun pl npl => ?_⟩
      have s1 : Same H (upd H pl (.lst [])) := Same.new npl
      obtain ⟨dx, d, hb, _⟩ := id (B.same s1).ins
      refine ⟨_, rfl, b, dx, _, rfl, hb, rfl, b, l, G, cs, past, rfl, B.same s1, fun pn nm npn hnp hns => ⟨_, rfl, ⟨_, SqL.of upd_same⟩, ?_⟩⟩
      have nlp : pn ≠ pl := fun z => by rw [z, upd_same] at npn; cases npn
      have s2 : Same H (upd (upd H pl (.lst [])) pn (.lst (nm.map V.str))) := s1.trans (Same.new npn)
      have hnl : nm.length ≤ 8 := by
        have := hnp.length_eq
        rw [List.length_map] at this
        have := B.good.len
        omega
      refine for_g (gives_list K pn (nm.map V.str)) (fun i σ Hx => Same H Hx ∧ Hx pn = some (.lst (nm.map V.str)) ∧ ∃ ws x3 x4, σ = [some (.ref b), some (.int n), some (.ref pl), x3, x4] ∧ Hx pl = some (.lst ws) ∧ ws.length ≤ i ∧ StepsR Hx ws (stepsOf (byNames cs (nm.take i)) n)) ⟨s2, upd_same, [], _, _, rfl, (by rw [upd_ne nlp.symm]; exact upd_same), Nat.le_refl _, ?_⟩ (fun i σ Hx _ h => SqL.of h.2.1) ?_ ?_
      · rw [List.take_zero]
        show StepsR _ [] (stepsOf [] n)
        rw [steps_nil hc]
        trivial
      · rintro i x σ Hx hx ⟨sx, hpn, ws, x3, x4, rfl, hpl, hwl, hst⟩
        rw [List.getElem?_map] at hx
        cases hk : nm[i]? with
        | none => rw [hk] at hx; cases hx
        | some y =>
          rw [hk] at hx
          cases hx
          have hi : i < nm.length := (List.getElem?_eq_some_iff.mp hk).1
          have hy : y ∈ cs.map (·.1) := hnp.mem_iff.mp (List.mem_of_getElem? hk)
          cases hts : cGet cs y with
          | none => exact absurd hy (get_none.mp hts)
          | some ts =>
            have gts : GT ts := (B.good.ok _ (get_mem hts)).2
            obtain ⟨dx2, d2, hb2, _⟩ := id (B.same sx).ins
            refine ⟨_, rfl, b, dx2, _, rfl, hb2, rfl, _, rfl, b, l, G, cs, past, y, rfl, B.same sx, ?_⟩
            rw [hts]
            intro p3 np3
            refine ⟨p3, ts, rfl, SqL.of upd_same, gt_in gts, by have := gt_len gts; omega, fun H4 s4 => ?_⟩
            have s34 : Same Hx H4 := (Same.new np3).trans s4
            have eN : byNames cs (nm.take (i + 1)) = byNames cs (nm.take i) ++ [(y, ts)] := by
              rw [take_snoc hk, byNames_snoc hts]
            refine ⟨_, rfl, _, rfl, _, _, rfl, rfl, rfl, _, rfl, ?_⟩
            refine ite2 (fun hz => ?_) (fun hz => ?_)
            · have hz : Builtin.bitAnd n (worth ts) = 0 := by simpa using hz
              refine ⟨_, rfl, .inl ⟨rfl, _, SqL.of (s34 _ _ hpl)⟩, _, rfl, _, rfl, _, rfl, _, _, rfl, rfl, _, _, rfl, rfl, ⟨p2, by decide⟩, bigr rfl, fun t nt => ?_⟩
              have s5 : Same Hx (upd H4 t (.tup [.str y, .int ((n + worth ts) / 2)])) := s34.trans (Same.new nt)
              have nplt : t ≠ pl := fun z => by rw [z, s34 _ _ hpl] at nt; cases nt
              refine ⟨pl, _, _, rfl, rfl, s5 _ _ hpl, Nat.lt_of_lt_of_le (by omega : ws.length < 1000) sizeBig, ?_⟩
              refine ⟨(sx.trans s5).put npl, (by rw [upd_ne nlp]; exact s5 _ _ hpn), _, _, _, rfl, upd_same, (by rw [List.length_append, List.length_singleton]; omega), ?_⟩
              rw [eN, steps_snoc hc, if_pos hz]
              refine StepsR.snoc ?_ (hst.mono fun q' xs hq' => ?_)
              · rw [upd_ne nplt]; exact upd_same
              · have : q' ≠ pl := fun z => by rw [z, hpl] at hq'; cases hq'
                rw [upd_ne this]; exact s5 _ _ hq'
            · have hz : ¬ Builtin.bitAnd n (worth ts) = 0 := by simpa using hz
              refine ⟨sx.trans s34, s34 _ _ hpn, ws, _, _, rfl, s34 _ _ hpl, by omega, ?_⟩
              rw [eN, steps_snoc hc, if_neg hz, List.append_nil]
              exact hst.mono fun q' xs hq' => s34 _ _ hq'
      · rintro σ Hx ⟨sx, hpn, ws, x3, x4, rfl, hpl, hwl, hst⟩
        rw [List.length_map, List.take_length] at hst
        refine ⟨_, rfl, q pl Hx ws sx npl hpl fun nm' hp' hs' => ?_⟩
        rw [strs_same (hp'.trans hnp.symm) hs' hns]
        exact hst
--CUT--
/-! ### shapes as places -/
theorem at_worths7 {t : Int} (h0 : 0 ≤ t) (h6 : t ≤ 6) : atI (([1, 2, 4, 8, 16, 32, 64] : List Int).map V.int) t = some (.int (pw t)) := by
  have : t = 0 ∨ t = 1 ∨ t = 2 ∨ t = 3 ∨ t = 4 ∨ t = 5 ∨ t = 6 := by omega
  rcases this with h | h | h | h | h | h | h <;> subst h <;> rfl
def sp_number (K : PySem.W.Frag) : Sp := fun vs H Q _ => ∃ (a : Addr) (ds : List Int), vs = [.ref a] ∧ SqT K H a (ds.map V.int) ∧ (∀ d ∈ ds, 0 ≤ d ∧ d ≤ 6) ∧ ds.length ≤ 1000 ∧ ∀ H', Same H H' → Q (.int (worth ds)) H'
theorem sc_number : FnScope ["_law_ahead_here"] ["_law_ahead_here"] (defScope s_number) := ⟨rfl, rfl, rfl, by decide +kernel, rfl, by decide +kernel, by decide +kernel⟩
theorem ok_number (D : DefAt K mg "_law_number" s_number) (T : Bn mg) : Callee P w K mg base "_law_number" 1 ["_law_ahead_here"] (sp_number K) := by
  refine D.callee sc_number (fun _ _ _ _ _ _ us hl => match us, hl with | [_], _ => rfl) (fun vs H Q E h => ?_) (fun f cdv A outer s H vs Q E hr h => ?_)
  · obtain ⟨a, ds, rfl, _⟩ := h
    rfl
  · obtain ⟨a, ds, rfl, ha, hr6, hl, q⟩ := h
    have S := sc_number
    refine ⟨_, pss_one (ps_ret (pe_callB (call_sum1 rfl) rfl T.n_sum boot_sum (pa_cons (pe_comp (own := ["_law_d"]) (caps := []) rfl ⟨rfl, rfl, rfl, rfl, trivial⟩ (pi_tup (pv 0)) (fun _ _ _ _ _ _ => pg_name (i := 0) (nd_comp (by decide +kernel)) rfl (Or.inl rfl)) (fun _ _ _ _ _ _ => pts_nil) (fun _ _ _ _ _ _ => pe_ix (ix_list' K rfl) (pe_lst (pa_cons (pe_int) (pa_cons (pe_int) (pa_cons (pe_int) (pa_cons (pe_int) (pa_cons (pe_int) (pa_cons (pe_int) (pa_cons (pe_int) pa_nil)))))))) (pv 0) (fun _ _ => rfl))) pa_nil))), ?_⟩
    refine ⟨_, rfl, _, rfl, ⟨_, ha⟩, fun D hD => ?_⟩
    refine comp_s (capv := []) (L := ds.map V.int) (by rfl) (gives_tup K a (ds.map V.int)) (by rw [List.length_map]; exact big hl) hD ?_ (fun _ => true) (fun v => match v with | .int t => .int (pw t) | _ => .non) ?_ ?_ ?_
    · exact fun H' s' => s'.tup ha
    · exact fun v hv H' R s' h => h H' (Same.refl _)
    · intro v hv _ H' R s' h
      obtain ⟨t, ht, rfl⟩ := List.mem_map.mp hv
      obtain ⟨h0, h6⟩ := hr6 t ht
      refine ⟨bigr rfl, fun p np => ?_⟩
      have h : R (.int (pw t)) _ := h (upd H' p (.lst (([1, 2, 4, 8, 16, 32, 64] : List Int).map V.int))) (Same.new np)
      exact ⟨_, rfl, _, _, _, _, rfl, rfl, SqL.of upd_same, at_worths7 h0 h6, h⟩
    · intro H' s' e
      refine ⟨_, ds.map pw, rfl, ?_, q H' s'⟩
      refine SqL.of ?_
      rw [e]
      congr 2
      rw [List.filter_eq_self.mpr (fun _ _ => rfl), List.map_map, List.map_map]
      rfl
theorem bit_test {n : Int} (h : 0 ≤ n) (i : Nat) : decide (Builtin.bitAnd (n / 2 ^ (0 + ((i : Nat) : Int)).toNat) 1 = 1) = n.toNat.testBit i := by
  rw [bitAnd_m1, show (0 + ((i : Nat) : Int)).toNat = i by omega, Bool.eq_iff_iff, decide_eq_true_eq, Nat.testBit_eq_decide_div_mod_eq, decide_eq_true_eq]
  obtain ⟨m, rfl⟩ := Int.eq_ofNat_of_zero_le h
  rw [Int.toNat_natCast, show ((m : Int) / 2 ^ i) = ((m / 2 ^ i : Nat) : Int) by push_cast; rfl]
  omega
def sp_ahead : Sp := fun vs H Q _ => ∃ (n : Int), vs = [.int n] ∧ 0 ≤ n ∧ ∀ p H', Same H H' → H' p = some (.tup ((aheadOf n).map V.int)) → Q (.ref p) H'
theorem sc_ahead : FnScope ["_law_number_here"] ["_law_number_here"] (defScope s_ahead) := ⟨rfl, rfl, rfl, by decide +kernel, rfl, by decide +kernel, by decide +kernel⟩
theorem ok_ahead (D : DefAt K mg "_law_ahead" s_ahead) (T : Bn mg) : Callee P w K mg base "_law_ahead" 1 ["_law_number_here"] sp_ahead := by
  refine D.callee sc_ahead (fun _ _ _ _ _ _ us hl => match us, hl with | [_], _ => rfl) (fun vs H Q E h => ?_) (fun f cdv A outer s H vs Q E hr h => ?_)
  · obtain ⟨n, rfl, _⟩ := h
    rfl
  · obtain ⟨n, rfl, h0, q⟩ := h
    have S := sc_ahead
    refine ⟨_, pss_one (ps_ret (pe_callTy call_tuple_of rfl T.n_tuple boot_tuple (pa_cons (pe_comp (own := ["_law_d"]) (caps := [(0, "_law_number_here")]) rfl ⟨rfl, rfl, rfl, rfl, ⟨⟨rfl, rfl, .inl rfl⟩, trivial⟩⟩ (pi_range1 rfl T.n_range (pa_cons (pe_int) pa_nil)) (fun _ _ _ _ _ _ => pg_name (i := 0) (nd_comp (by decide +kernel)) rfl (Or.inl rfl)) (fun _ _ _ _ _ _ => pts_one (pt_cmpR op_eq (pe_op op_and (pe_op op_shr (pv 1) (pv 0)) (pe_int)) (pe_int) (nomark _))) (fun _ _ _ _ _ _ => pv 0)) pa_nil))), ?_⟩
    refine ⟨_, rfl, by decide, by decide, fun Dc hD => ?_⟩
    refine comp_s (capv := [some (.int n)]) (by rfl) (gives_range 0 (7 : Int).toNat) (bigr rfl) hD ?_ (bitOf n) (fun v => v) ?_ ?_ ?_
    · exact fun _ _ => trivial
    · intro v hv H' R s' h
      obtain ⟨t, ht, rfl⟩ := List.mem_map.mp hv
      refine ⟨_, rfl, _, rfl, _, _, rfl, rfl, ?_, _, _, rfl, rfl, rfl, _, rfl, ?_⟩
      · show (0 : Int) ≤ 0 + ((t : Nat) : Int)
        omega
      rw [dec_ii]
      exact h H' (Same.refl _)
    · intro v hv hp H' R s' h
      exact ⟨_, rfl, h H' (Same.refl _)⟩
    · intro H7 s7 e7
      have ets : (((((List.range (7 : Int).toNat).map fun i => V.int (0 + ((i : Nat) : Int))).filter (bitOf n)).map fun v => v)) = (aheadOf n).map V.int := by
        rw [List.map_id', List.filter_map]
        unfold aheadOf
        rw [List.map_map]
        have : (List.filter (bitOf n ∘ fun i => V.int (0 + ((i : Nat) : Int))) (List.range (7 : Int).toNat)) = (List.range 7).filter fun d => n.toNat.testBit d := List.filter_congr fun i _ => bit_test h0 i
        rw [this]
        refine List.map_congr_left fun i _ => ?_
        show V.int (0 + ((i : Nat) : Int)) = V.int ((i : Nat) : Int)
        rw [Int.zero_add]
      rw [ets] at e7
      exact ⟨_, _, rfl, .inl ⟨SqL.of e7, fun l nl => q l _ (s7.put (s7.free nl)) upd_same⟩⟩
def posV (v : V) : Bool := match v with
  | .int t => decide (0 < t)
  | _ => false
def decV (v : V) : V := match v with
  | .int t => .int (t - 1)
  | _ => .non
def sp_after (K : PySem.W.Frag) : Sp := fun vs H Q _ => ∃ (a t : Addr) (ah ts : List Int), vs = [.ref a, .ref t] ∧ SqT K H a (ah.map V.int) ∧ H t = some (.lst (ts.map V.int)) ∧ ah.Nodup ∧ (∀ d ∈ ah, 0 ≤ d ∧ d ≤ 6) ∧ ts.Nodup ∧ (∀ d ∈ ts, 0 ≤ d ∧ d ≤ 7) ∧
  (if meets ah ts = true then Q .non H else ∀ p H', Same H H' → H p = none → H' p = some (.tup ((afterOf ah ts).map V.int)) → Q (.ref p) H')
theorem sc_after : FnScope ["_law_ahead_here", "_law_teeth", "_law_t"] ["_law_ahead_here", "_law_teeth"] (defScope s_after) := ⟨rfl, rfl, rfl, by decide +kernel, rfl, by decide +kernel, by decide +kernel⟩
theorem ok_after (D : DefAt K mg "_law_after" s_after) (T : Bn mg) : Callee P w K mg base "_law_after" 1 ["_law_ahead_here", "_law_teeth"] (sp_after K) := by
  refine D.callee sc_after (fun _ _ _ _ _ _ us hl => match us, hl with | [_, _], _ => rfl) (fun vs H Q E h => ?_) (fun f cdv A outer s H vs Q E hr h => ?_)
  · obtain ⟨a, t, ah, ts, rfl, _⟩ := h
    rfl
  · obtain ⟨a, t, ah, ts, rfl, ha, ht, an, ar, tn, tr, q⟩ := h
    have S := sc_after
    have hal : ah.length ≤ 8 := teeth_len an fun d hd => by have := ar d hd; omega
    have htl : ts.length ≤ 8 := teeth_len tn tr
    refine ⟨_, pss_cons (ps_for PassesOwn.never rfl (pi_list (pv 1)) (pg_name (i := 2) S.nd rfl (Or.inl rfl))
      (pss_one (ps_if (pt_cmpR op_in_seq (pv 2) (pv 0) (by with_unfolding_all rfl))
        (pss_one (ps_ret (pe_non)))
        (pss_nil))))
    (pss_one (ps_ret (pe_callTy call_tuple_of rfl T.n_tuple boot_tuple (pa_cons (pe_comp (own := ["_law_d"]) (caps := []) rfl ⟨rfl, rfl, rfl, rfl, trivial⟩ (pi_list (pe_callB call_sortedI rfl T.n_sorted boot_sorted (pa_cons (pe_op op_cat (pe_callTy call_list_of rfl T.n_list boot_list (pa_cons (pv 0) pa_nil)) (pv 1)) pa_nil))) (fun _ _ _ _ _ _ => pg_name (i := 0) (nd_comp (by decide +kernel)) rfl (Or.inl rfl)) (fun _ _ _ _ _ _ => pts_one (pt_cmpR op_gt (pv 0) (pe_int) (nomark _))) (fun _ _ _ _ _ _ => pe_op op_sub (pv 0) (pe_int))) pa_nil)))), ?_⟩
    refine ⟨_, rfl, _, rfl, ⟨_, SqL.of ht⟩, ?_⟩
    refine for_g (gives_list K t (ts.map V.int)) (fun i σ Hx => Hx = H ∧ meets ah (ts.take i) = false ∧ ∃ x2, σ = [some (.ref a), some (.ref t), x2]) ⟨rfl, rfl, _, rfl⟩ (fun i σ Hx _ h => by rw [h.1]; exact SqL.of ht) ?_ ?_
    · rintro i x σ Hx hx ⟨rfl, hm, x2, rfl⟩
      rw [List.getElem?_map] at hx
      cases hk : ts[i]? with
      | none => rw [hk] at hx; cases hx
      | some y =>
        rw [hk] at hx
        cases hx
        refine ⟨_, rfl, _, rfl, _, _, rfl, .inr ha, rfl, flats ah, _, rfl, ?_⟩
        rw [if_neg (by decide), in_intS]
        refine ite2 (fun hc => ?_) (fun hc => ?_)
        · have hc : y ∈ ah := by simpa using hc
          have : meets ah ts = true := by
            unfold meets
            exact List.any_eq_true.mpr ⟨y, List.mem_of_getElem? hk, decide_eq_true hc⟩
          rw [if_pos this] at q
          exact q
        · have hc : y ∉ ah := by simpa using hc
          refine ⟨rfl, ?_, _, rfl⟩
          rw [take_snoc hk]
          rw [meets_false] at hm ⊢
          intro z hz
          rcases List.mem_append.mp hz with h | h
          · exact hm z h
          · rw [List.mem_singleton.mp h]; exact hc
    · rintro σ Hx ⟨rfl, hm, x2, rfl⟩
      rw [List.length_map, List.take_length] at hm
      rw [if_neg (by rw [hm]; decide)] at q
      refine ⟨_, rfl, a, _, rfl, .inr ha, fun p np => ⟨_, rfl, p, t, _, ts.map V.int, rfl, rfl, upd_same, ?_, ?_, fun p2 np2 => ?_⟩⟩
      · rw [upd_ne (ne_of_none ht np)]; exact ht
      · rw [List.length_map, List.length_map]
        exact Nat.le_of_lt (Nat.lt_of_lt_of_le (by omega : ah.length + ts.length < 1000) sizeBig)
      refine ⟨p2, ah ++ ts, rfl, SqL.of (by rw [List.map_append]; exact upd_same), by rw [List.length_append]; omega, fun p3 ns np3 hp hs => ?_⟩
      have hc := after_canon an ar tn tr hm hp hs
      have s1 : Same Hx (upd Hx p (.lst (ah.map V.int))) := Same.new np
      have s2 := s1.trans (Same.new (o := .lst (ah.map V.int ++ ts.map V.int)) np2)
      have s3 := s2.trans (Same.new (o := .lst (ns.map V.int)) np3)
      refine ⟨_, rfl, ⟨_, SqL.of upd_same⟩, fun Dc hD => ?_⟩
      have hnl : ns.length ≤ 1000 := by
        have := hp.length_eq
        rw [List.length_append] at this
        omega
      refine comp_s (capv := []) (L := ns.map V.int) (by rfl) (gives_list K p3 (ns.map V.int)) (by rw [List.length_map]; exact big hnl) hD (fun H' s' => SqL.of (s' _ _ upd_same)) posV decV ?_ ?_ ?_
      · intro v hv H' R s' h
        obtain ⟨d, hd, rfl⟩ := List.mem_map.mp hv
        exact ⟨_, rfl, _, _, rfl, rfl, _, rfl, h H' (Same.refl _)⟩
      · intro v hv _ H' R s' h
        obtain ⟨d, hd, rfl⟩ := List.mem_map.mp hv
        exact ⟨_, rfl, _, _, rfl, rfl, h H' (Same.refl _)⟩
      · intro H7 s7 e7
        have ets : (((ns.map V.int).filter posV).map decV) = (afterOf ah ts).map V.int := by
          unfold afterOf
          rw [← hc, List.filter_map, List.map_map, List.map_map]
          rfl
        rw [ets] at e7
        have s07 := s3.trans s7
        exact ⟨_, _, rfl, .inl ⟨SqL.of e7, fun l nl => q l _ (s07.put (s07.free nl)) (s07.free nl) upd_same⟩⟩
def sp_goes (K : PySem.W.Frag) : Sp := fun vs H Q _ => ∃ (k a : Addr) (ws : List V) (ks : Combs) (ah : List Int), vs = [.ref k, .ref a] ∧ H k = some (.lst ws) ∧ KindsL (fun _ => True) H ws ks ∧ ks.length ≤ 100 ∧ (∀ c ∈ ks, GT c.2) ∧ SqT K H a (ah.map V.int) ∧ ah.Nodup ∧ (∀ d ∈ ah, 0 ≤ d ∧ d ≤ 6) ∧
  ∀ p H' vs', Same H H' → H p = none → H' p = some (.lst vs') → GoesR H' vs' (goesOf ks ah) → Q (.ref p) H'
theorem sc_goes : FnScope ["_law_kinds", "_law_ahead_here", "_law_found", "_law_word_here", "_law_teeth", "_law_further"] ["_law_kinds", "_law_ahead_here"] (defScope s_goes) := ⟨rfl, rfl, rfl, by decide +kernel, rfl, by decide +kernel, by decide +kernel⟩
theorem ok_goes (D : DefAt K mg "_law_goes" s_goes) (T : Bn mg) (C_after : Callee P w K mg base "_law_after" 1 ["_law_ahead_here", "_law_teeth"] (sp_after K)) : Callee P w K mg base "_law_goes" 2 ["_law_kinds", "_law_ahead_here"] (sp_goes K) := by
  refine D.callee sc_goes (fun _ _ _ _ _ _ us hl => match us, hl with | [_, _], _ => rfl) (fun vs H Q E h => ?_) (fun f cdv A outer s H vs Q E hr h => ?_)
  · obtain ⟨k, a, ws, ks, ah, rfl, _⟩ := h
    rfl
  · obtain ⟨k, a, ws, ks, ah, rfl, hk, kr, hkl, hg, ha, an, ar, q⟩ := h
    have S := sc_goes
    have hlen := kr.length
    refine ⟨_, pss_cons (ps_if (pt_cmpR op_in_seq (pe_int) (pv 1) (by with_unfolding_all rfl))
      (pss_one (ps_ret (pe_lst (pa_cons (pe_tup (pa_cons (pe_str) (pa_cons (pe_fn C_after (hr.mono (by decide)) rfl (pa_cons (pv 1) (pa_cons (pe_lst (pa_nil)) pa_nil))) pa_nil))) pa_nil))))
      (pss_nil))
    (pss_cons (ps_set (i := 2) S.nd rfl (Or.inl rfl) (pe_lst (pa_nil)))
    (pss_cons (ps_for PassesOwn.never rfl (pi_list (pv 0)) (pg_lst rfl (pgs_cons (pg_name (i := 3) S.nd rfl (Or.inl rfl)) (pgs_cons (pg_name (i := 4) S.nd rfl (Or.inl rfl)) (pgs_nil))))
      (pss_cons (ps_set (i := 5) S.nd rfl (Or.inl rfl) (pe_fn C_after (hr.mono (by decide)) rfl (pa_cons (pv 1) (pa_cons (pv 4) pa_nil))))
      (pss_one (ps_if (pt_cmpR op_notN (pv 5) (pe_non) (nomark _))
        (pss_one (ps_expr (pe_bm PySem.F.plainAttrs_list PySem.F.slot_list_append PySem.F.type_list_append mt_append (pv 2) (pa_cons (pe_tup (pa_cons (pv 3) (pa_cons (pv 5) pa_nil))) pa_nil))))
        (pss_nil)))))
    (pss_one (ps_ret (pv 2))))), ?_⟩
    refine ⟨_, rfl, _, _, rfl, .inr ha, rfl, flats ah, _, rfl, ?_⟩
    rw [if_neg (by decide), in_intS]
    refine ite2 (fun hc => ?_) (fun hc => ?_)
    · have hc : (0 : Int) ∈ ah := by simpa using hc
      refine ⟨_, rfl, bigr rfl, fun p0 np0 => ⟨a, p0, ah, [], rfl, (Same.new np0).tup ha, upd_same, an, ar, List.nodup_nil, by simp, ?_⟩⟩
      rw [if_neg (show ¬ meets ah [] = true from Bool.false_ne_true)]
      intro p1 H1 s1 n1 e1
      refine ⟨bigr rfl, fun p2 np2 => ⟨bigr rfl, fun p3 np3 => ?_⟩⟩
      have s01 : Same H H1 := (Same.new np0).trans s1
      have s2 := s01.trans (Same.new (o := .tup [.str "", .ref p1]) np2)
      refine q p3 _ [.ref p2] (s2.trans (Same.new np3)) (s2.free np3) upd_same ?_
      rw [goes_in hc]
      have e2 : upd H1 p2 (.tup [.str "", .ref p1]) p2 = some (.tup [.str "", .ref p1]) := upd_same
      have e1' : upd H1 p2 (.tup [.str "", .ref p1]) p1 = some (.tup ((afterOf ah []).map V.int)) := by rw [upd_ne (ne_of_none e1 np2)]; exact e1
      refine ⟨⟨p2, p1, rfl, ?_, ?_⟩, trivial⟩
      · rw [upd_ne (ne_of_none e2 np3)]; exact e2
      · rw [upd_ne (ne_of_none e1' np3)]; exact e1'
    · have hc : (0 : Int) ∉ ah := by simpa using hc
      refine ⟨bigr rfl, fun pf npf => ?_⟩
      have s1 : Same H (upd H pf (.lst [])) := Same.new npf
      refine ⟨_, rfl, _, rfl, ⟨_, SqL.of (s1 _ _ hk)⟩, ?_⟩
      refine for_g (gives_list K k ws) (fun i σ Hx => Same H Hx ∧ ∃ vs x3 x4 x5, σ = [some (.ref k), some (.ref a), some (.ref pf), x3, x4, x5] ∧ Hx pf = some (.lst vs) ∧ vs.length ≤ i ∧ GoesR Hx vs (goesOf (ks.take i) ah)) ⟨s1, [], _, _, _, rfl, upd_same, Nat.le_refl _, ?_⟩ (fun i σ Hx _ h => SqL.of (h.1 _ _ hk)) ?_ ?_
      · rw [List.take_zero, goes_nil hc]
        trivial
      · rintro i x σ Hx hx ⟨sx, vs, x3, x4, x5, rfl, hpf, hvl, hgr⟩
        obtain ⟨c, qa, t, hkc, rfl, hq, ht⟩ := (kr.same sx).get hx
        have hi : i < ks.length := (List.getElem?_eq_some_iff.mp hkc).1
        have gc := hg c (List.mem_of_getElem? hkc)
        refine ⟨qa, _, rfl, SqL.of hq, rfl, _, _, rfl, _, _, rfl, rfl, ?_⟩
        refine ⟨_, rfl, _, rfl, a, t, ah, c.2, rfl, sx.tup ha, ht, an, ar, nodup_lt (gt_lt gc), gt_in gc, ?_⟩
        by_cases hm : meets ah c.2 = true
        · rw [if_pos hm]
          refine ⟨_, rfl, rfl, _, rfl, iteF ?_⟩
          refine ⟨sx, vs, _, _, _, rfl, hpf, by omega, ?_⟩
          rw [take_snoc hkc, goes_snoc hc, if_pos hm, List.append_nil]
          exact hgr
        · rw [if_neg hm]
          intro p1 H1 s1' n1 e1
          refine ⟨_, rfl, rfl, _, rfl, iteT ?_⟩
          have sx1 := s1'
          refine ⟨_, rfl, .inl ⟨rfl, _, SqL.of (s1' _ _ hpf)⟩, _, rfl, _, rfl, bigr rfl, fun p2 np2 => ?_⟩
          have s2 : Same Hx (upd H1 p2 (.tup [.str c.1, .ref p1])) := s1'.trans (Same.new np2)
          have e2 : upd H1 p2 (.tup [.str c.1, .ref p1]) p2 = some (.tup [.str c.1, .ref p1]) := upd_same
          have e1' : upd H1 p2 (.tup [.str c.1, .ref p1]) p1 = some (.tup ((afterOf ah c.2).map V.int)) := by rw [upd_ne (ne_of_none e1 np2)]; exact e1
          have hpf2 := s2 _ _ hpf
          refine ⟨pf, _, _, rfl, rfl, hpf2, Nat.lt_of_lt_of_le (by omega : vs.length < 1000) sizeBig, ?_⟩
          have tn : ∀ q' xs, upd H1 p2 (.tup [.str c.1, .ref p1]) q' = some (.tup xs) → upd (upd H1 p2 (.tup [.str c.1, .ref p1])) pf (.lst (vs ++ [.ref p2])) q' = some (.tup xs) := fun q' xs h => by
            have : q' ≠ pf := fun z => by rw [z, hpf2] at h; cases h
            rw [upd_ne this]; exact h
          refine ⟨(sx.trans s2).put npf, _, _, _, _, rfl, upd_same, (by rw [List.length_append, List.length_singleton]; omega), ?_⟩
          rw [take_snoc hkc, goes_snoc hc, if_neg hm]
          exact GoesR.snoc (s := (c.1, afterOf ah c.2)) (tn _ _ e2) (tn _ _ e1') (hgr.mono fun q' xs h => tn _ _ (s2 _ _ h))
      · rintro σ Hx ⟨sx, vs, x3, x4, x5, rfl, hpf, hvl, hgr⟩
        rw [hlen, List.take_length] at hgr
        exact ⟨_, rfl, q pf Hx vs sx npf hpf hgr⟩
theorem at0 {x y : V} : atI [x, y] 0 = some x := show atI [x, y] ((0 : Nat) : Int) = _ from atI_nat rfl
theorem at1 {x y : V} : atI [x, y] 1 = some y := show atI [x, y] ((1 : Nat) : Int) = _ from atI_nat rfl
def sp_refused (K : PySem.W.Frag) : Sp := fun vs H Q _ => ∃ (a l : Addr) (x : Str), vs = [.ref a, .str x] ∧ PyData.strOk x = true ∧ H a = some (.tup [.str (Str.ofString "refused"), .ref l]) ∧ H l = some (.lst [.str x]) ∧ ∀ H', Same H H' → Q (.bl true) H'
theorem shaped_one {x : Str} (h : PyData.strOk x = true) : SeqAt.shaped (.list [.str x]) = true := by simp [h, SeqAt.shaped, PyData.canLay0, PyData.canLayAll0, PyData.depth, PyData.depthAll]
theorem eqv_one (x : Str) : PyData.eqv (.list [.str x]) (.list [.str x]) = true := by simp [PyData.eqv, PyData.eqvAll]
theorem sc_refused : FnScope ["_law_found", "_law_due"] ["_law_found", "_law_due"] (defScope s_refused) := ⟨rfl, rfl, rfl, by decide +kernel, rfl, by decide +kernel, by decide +kernel⟩
theorem ok_refused (D : DefAt K mg "_law_refused" s_refused) (T : Bn mg) : Callee P w K mg base "_law_refused" 2 ["_law_found", "_law_due"] (sp_refused K) := by
  refine D.callee sc_refused (fun _ _ _ _ _ _ us hl => match us, hl with | [_, _], _ => rfl) (fun vs H Q E h => ?_) (fun f cdv A outer s H vs Q E hr h => ?_)
  · obtain ⟨a, l, x, rfl, _⟩ := h
    rfl
  · obtain ⟨a, l, x, rfl, hok, ha, hl, q⟩ := h
    have S := sc_refused
    have a0 : atI [V.str (Str.ofString "refused"), V.ref l] 0 = some (V.str (Str.ofString "refused")) := at0
    have a1 : atI [V.str (Str.ofString "refused"), V.ref l] 1 = some (V.ref l) := at1
    refine ⟨_, pss_cons (ps_if (PW.pt (pw_or (pt_not (pt_val (pe_callB (call_isT "tuple") rfl T.n_isinstance boot_isinstance (pa_cons (pv 0) (pa_cons (pe_bltn (v := .ty "tuple") rfl T.n_tuple boot_tuple rfl) pa_nil))))) (pw_or (pt_cmpR op_ne (pe_callB call_len_seq rfl T.n_len PySem.boot_len (pa_cons (pv 0) pa_nil)) (pe_int) (nomark _)) (pw_or1 (pt_cmpR op_ne (pe_ix ix_tup (pv 0) (pe_int) (fun _ _ => rfl)) (pe_str) (nomark _))))))
      (pss_one (ps_ret (pe_bl)))
      (pss_nil))
    (pss_one (ps_ret (pe_cmpR (op_eqD hr.units) (pe_ix ix_tup (pv 0) (pe_int) (fun _ _ => rfl)) (pe_lst (pa_cons (pv 1) pa_nil)) (nomark _)))), ?_⟩
    refine ⟨_, rfl, _, _, true, rfl, .tup ha, rfl, _, rfl, ?_⟩
    refine iteF ?_
    refine ⟨_, rfl, _, _, rfl, .inr (SqT.of ha), rfl, _, rfl, ?_⟩
    refine iteF ?_
    refine ⟨_, rfl, _, _, _, _, rfl, rfl, SqT.of ha, a0, rfl, _, rfl, ?_⟩
    refine iteF ?_
    refine ⟨_, rfl, _, _, _, _, rfl, rfl, SqT.of ha, a1, _, rfl, bigr rfl, fun p np => ?_⟩
    have s1 : Same H (upd H p (.lst [.str x])) := Same.new np
    refine ⟨_, _, .lst (SqL.of (s1 _ _ hl)) (.cons (.str x) .nil), .lst (SqL.of upd_same) (.cons (.str x) .nil), shaped_one hok, shaped_one hok, ?_⟩
    rw [if_neg Bool.false_ne_true, eqv_one]
    exact q _ s1
theorem gt_not {ks : List (Str × List Int)} (nd : (ks.map (·.1)).Nodup) {i : Nat} {k : Str × List Int} (h : ks[i]? = some k) : cGet (ks.take i) k.1 = none := by
  rw [get_none]
  intro hm
  obtain ⟨c, hc, e⟩ := List.mem_map.mp hm
  obtain ⟨j, hj, ej⟩ := List.getElem_of_mem hc
  have hi := (List.getElem?_eq_some_iff.mp h).1
  have hj' : j < i := by
    have := hj
    rw [List.length_take] at this
    omega
  have e1 : (ks.map (·.1))[j]? = some k.1 := by
    rw [List.getElem?_map, List.getElem?_eq_getElem (by omega)]
    rw [List.getElem_take] at ej
    rw [ej]
    exact congrArg some e
  have e2 : (ks.map (·.1))[i]? = some k.1 := by rw [List.getElem?_map, h]; rfl
  have := (List.getElem?_inj (by rw [List.length_map]; omega) nd).mp (e1.trans e2.symm)
  omega
def sp_mkbook (C : Addr) : Sp := fun vs H Q _ => ∃ (a : Addr) (ws : List V) (ks : List (Str × List Int)), vs = [.ref a] ∧ H a = some (.lst ws) ∧ Drawn (fun _ => True) H ws ks ∧ ks.length ≤ 8 ∧
  ∀ b l G past H', Same H H' → H b = none → H l = none → (∀ x, G x → H x = none) → Bk C G H' b l ks past → past.length = ks.length → Q (.ref b) H'
theorem sc_book : FnScope ["_law_kinds", "_law_book_here", "_law_word_here", "_law_teeth"] ["_law_kinds"] (defScope s_book) := ⟨rfl, rfl, rfl, by decide +kernel, rfl, by decide +kernel, by decide +kernel⟩
theorem ok_mkbook {ea : Nat → Addr} {C : Addr} (D : DefAt K mg "_law_book" s_book) (T : Bn mg) (BA : BookAt K C) (C_Book : Maker P w K mg base "Book" C CX0 1 ["self"] (sp_init C)) (M_put : Method P w K mg base C "put" (CX1 P w) 3 ["self", "name", "teeth"] (sp_put (K := K) ea C)) : Callee P w K mg base "_law_book" 4 ["_law_kinds"] (sp_mkbook C) := by
  refine D.callee sc_book (fun _ _ _ _ _ _ us hl => match us, hl with | [_], _ => rfl) (fun vs H Q E h => ?_) (fun f cdv A outer s H vs Q E hr h => ?_)
  · obtain ⟨a, ws, ks, rfl, _⟩ := h
    rfl
  · obtain ⟨a, ws, ks, rfl, ha, dr, hk8, q⟩ := h
    have S := sc_book
    have hu := hu_of hr
    have B_cls := BA.cls
    have hlen := dr.rows.length
    refine ⟨_, pss_cons (ps_set (i := 1) S.nd rfl (Or.inl rfl) (pe_mk0 C_Book (hr.mono (by decide)) (by first | exact pass0 | exact pass_try | exact pass1 | exact pass_E0) rfl))
    (pss_cons (ps_for PassesOwn.never rfl (pi_list (pv 0)) (pg_lst rfl (pgs_cons (pg_name (i := 2) S.nd rfl (Or.inl rfl)) (pgs_cons (pg_name (i := 3) S.nd rfl (Or.inl rfl)) (pgs_nil))))
      (pss_one (ps_expr (pe_mt (pv 1) B_cls M_put (hr.mono (by decide)) (by first | exact pass0 | exact pass_try | exact pass1 | exact pass_E0) (pa_cons (pv 2) (pa_cons (pe_callTy call_list_of rfl T.n_list boot_list (pa_cons (pv 3) pa_nil)) pa_nil))))))
    (pss_one (ps_ret (pv 1)))), ?_⟩
    refine fun b dx nb ndx ndb => ⟨b, dx, rfl, upd_same, fun H1 l d m nl nd B => ⟨rfl, ?_⟩⟩
    have hlb : l ≠ b := fun z => by rw [z, upd_same] at nl; cases nl
    have nl0 : H l = none := by
      rw [upd_ne hlb] at nl
      by_cases z : l = dx
      · rw [z]; exact ndx
      · rw [upd_ne z] at nl; exact nl
    have hdb : d ≠ b := fun z => by rw [z, upd_same] at nd; cases nd
    have nd0 : H d = none := by
      rw [upd_ne hdb] at nd
      by_cases z : d = dx
      · rw [z]; exact ndx
      · rw [upd_ne z] at nd; exact nd
    have s1 : Same H H1 := fun x o e => m.keep x o (by rw [upd_ne (ne_of_none e nb), upd_ne (ne_of_none e ndx)]; exact e) (ne_of_none e nb) (ne_of_none e nb)
    refine ⟨_, rfl, _, rfl, ⟨_, SqL.of (s1 _ _ ha)⟩, ?_⟩
    refine for_g (gives_list K a ws) (fun i σ H2 => Same H H2 ∧ ∃ G past x2 x3, σ = [some (.ref a), some (.ref b), x2, x3] ∧ Bk C G H2 b l (ks.take i) past ∧ past.length = i ∧ ∀ x, G x → H x = none) ⟨s1, _, [], _, _, rfl, B, rfl, fun x g => by rw [show x = d from g]; exact nd0⟩ (fun i σ H2 _ h => SqL.of (h.1 _ _ ha)) ?_ ?_
    · rintro i x σ H2 hx ⟨s2, G, past, x2, x3, rfl, B2, hp, hG⟩
      obtain ⟨k, qa, t, hk, rfl, hq, ht⟩ := (dr.same s2).rows.get hx
      have hi : i < ks.length := (List.getElem?_eq_some_iff.mp hk).1
      obtain ⟨hkn, hkg⟩ := dr.good k (List.mem_of_getElem? hk)
      obtain ⟨dx2, d2, hb2, _⟩ := id B2.ins
      refine ⟨qa, _, rfl, SqL.of hq, rfl, _, _, rfl, _, _, rfl, rfl, ?_⟩
      refine ⟨_, rfl, b, dx2, _, rfl, hb2, rfl, _, rfl, _, rfl, t, _, rfl, .inl (SqL.of ht), fun p np => ?_⟩
      have s3 : Same H2 (upd H2 p (.lst (k.2.map V.int))) := Same.new np
      refine ⟨b, l, G, _, past, k.1, p, k.2, rfl, B2.same s3, SqL.of upd_same, ?_, ?_, ?_⟩
      · exact big (by have := name_len hkn; omega)
      · have := gt_len hkg; omega
      have hlt : (ks.take i).length = i := by rw [List.length_take]; omega
      have e : putD (ks.take i) past k.1 k.2 = .ok (ks.take (i + 1)) := by
        unfold putD full
        rw [if_neg (by rw [hkn]; decide), if_neg (by rw [gt_teeth hkg]; decide), gt_not dr.nd hk, if_neg (by simp), if_neg (by omega), if_neg (by omega), put_new (gt_not dr.nd hk), gt_eq hkg, take_snoc hk]
      rw [e]
      intro H4 G4 m4 B4
      refine ⟨fun x o e' => m4.keep x o (s3 _ _ (s2 _ _ e')) (ne_of_none e' nb) (ne_of_none e' nl0), G4, _, _, _, rfl, B4, by rw [List.length_append, List.length_singleton, hp], fun x g => ?_⟩
      rcases m4.new x g with g | g
      · exact hG x g
      · exact (s2.trans s3).free g
    · rintro σ H2 ⟨s2, G, past, x2, x3, rfl, B2, hp, hG⟩
      rw [List.take_of_length_le (by omega)] at B2
      exact ⟨_, rfl, q b l G past H2 s2 nb nl0 hG B2 (by omega)⟩
def tellT (Q : VK) : VK := fun v H1 => (2 : Nat) ≤ sizeLine ∧ ∀ p, H1 p = none → Q (.ref p) (upd H1 p (.tup [.str (Str.ofString "told"), v]))
def refuT (K : PySem.W.Frag) (ea : Nat → Addr) (ce : Value) (Q : VK) : XK := fun c _ H1 => ∃ D j, c = .ref D ∧ KindF K ea D j ∧ PySem.W.exmOne K (.ref D) ce = some true ∧ ∀ p l H2, Same H1 H2 → H1 l = none → H2 l = some (.lst [.str (errName j)]) → H2 p = none → Q (.ref p) (upd H2 p (.tup [.str (Str.ofString "refused"), .ref l]))
def spTry1 (K : PySem.W.Frag) (ea : Nat → Addr) (ce : Value) (C : Addr) (m : Str) (sp : Sp) : Sp := fun vs H Q _ => ∃ b x dx fs, vs = [.ref b, x] ∧ H b = some (.ins C dx fs) ∧ fs.lookup m = none ∧ sp [.ref b, x] H (tellT Q) (refuT K ea ce Q)
def spTry2 (K : PySem.W.Frag) (ea : Nat → Addr) (ce : Value) (C : Addr) (m : Str) (sp : Sp) : Sp := fun vs H Q _ => ∃ b x y dx fs, vs = [.ref b, x, y] ∧ H b = some (.ins C dx fs) ∧ fs.lookup m = none ∧ sp [.ref b, x, y] H (tellT Q) (refuT K ea ce Q)
def spTry0 (K : PySem.W.Frag) (ea : Nat → Addr) (ce : Value) (C : Addr) (m : Str) (sp : Sp) : Sp := fun vs H Q _ => ∃ b dx fs, vs = [.ref b] ∧ H b = some (.ins C dx fs) ∧ fs.lookup m = none ∧ sp [.ref b] H (tellT Q) (refuT K ea ce Q)
def spTryF (K : PySem.W.Frag) (ea : Nat → Addr) (ce : Value) (sp : Sp) : Sp := fun vs H Q _ => ∃ x y, vs = [x, y] ∧ sp [x, y] H (tellT Q) (refuT K ea ce Q)
theorem sc_steps : FnScope ["_law_book_here", "_law_number_here", "_law_e"] ["_law_book_here", "_law_number_here"] (defScope s_steps) := ⟨rfl, rfl, rfl, by decide +kernel, rfl, by decide +kernel, by decide +kernel⟩
theorem ok_tsteps (D : DefAt K mg "_law_steps" s_steps) (T : Bn mg) {ea : Nat → Addr} {ce : Value} {sp : Sp} (V_CombError : mg "CombError" = some ce) (C_kind : HCallee P w K mg base "_law_kind" 1 ["_law_e"] (spKind K ea))
    (C_shape_steps : Callee1 P w K mg base "shape_steps" 3 ["book", "shape"] sp) : Callee P w K mg base "_law_steps" 4 ["_law_book_here", "_law_number_here"] (spTryF K ea ce sp) := by
  refine D.callee sc_steps (fun _ _ _ _ _ _ us hl => match us, hl with | [_, _], _ => rfl) (fun vs H Q E h => ?_) (fun f cdv A outer s H vs Q E hr h => ?_)
  · obtain ⟨x, y, rfl, _⟩ := h
    rfl
  · obtain ⟨x, y, rfl, h⟩ := h
    have S := sc_steps
    refine ⟨_, pss_one (ps_try (i := 2) rfl rfl S.nd rfl rfl rfl V_CombError (fun E pn => pss_one (ps_ret (pe_tup (pa_cons (pe_str) (pa_cons (pe_fn1 C_shape_steps (hr.mono (by decide)) (by first | exact pass_try | exact pass1 | exact pass_E0) rfl (pa_cons (pv 0) (pa_cons (pv 1) pa_nil))) pa_nil)))))
      (fun x c ox pn vs hc hd h2 hx => pss_one (ps_ret (pe_tup (pa_cons (pe_str) (pa_cons (pe_hand C_kind hr hx hc hd h2 (by decide) rfl (pa_cons (pv 2) pa_nil)) pa_nil)))))), ?_⟩
    refine ⟨refuT K ea ce Q, ⟨_, rfl, _, rfl, h⟩, fun c H' x' hE hx' => ?_⟩
    obtain ⟨Dd, j, rfl, kf, he, q⟩ := hE
    refine ⟨he, _, rfl, rfl, Dd, j, rfl, kf, fun p H2 s2 n2 e2 => ⟨bigr rfl, fun p' np' => ?_⟩⟩
    exact q p' p H2 s2 n2 e2 np'
theorem ej_re {K : PySem.W.Frag} {ea : Nat → Addr} {ce : Value} {j : Nat} (e : EJ K ea ce j) {Q : VK} {H : Hp} (q : ∀ p l H2, Same H H2 → H l = none → H2 l = some (.lst [.str (errName j)]) → H2 p = none → Q (.ref p) (upd H2 p (.tup [.str (Str.ofString "refused"), .ref l]))) : refuT K ea ce Q (.ref (ea j)) none H := ⟨ea j, j, rfl, e.kf, e.ex, q⟩
/-- what a try tells: the number, or which refusal -/
def Ans (H : Hp) (fd : Addr) : Except Nat Int → Prop
  | .ok n => H fd = some (.tup [.str (Str.ofString "told"), .int n])
  | .error j => ∃ le, H fd = some (.tup [.str (Str.ofString "refused"), .ref le]) ∧ H le = some (.lst [.str (errName j)])
theorem Ans.same {H H' : Hp} {fd : Addr} {r : Except Nat Int} (a : Ans H fd r) (s : Same H H') : Ans H' fd r := by
  cases r with
  | ok n => exact s _ _ a
  | error j => obtain ⟨le, h1, h2⟩ := a; exact ⟨le, s _ _ h1, s _ _ h2⟩
theorem ej_ans {K : PySem.W.Frag} {ea : Nat → Addr} {ce : Value} {j : Nat} (e : EJ K ea ce j) {Q : VK} {H : Hp} (q : ∀ fd H2, Same H H2 → Ans H2 fd (.error j) → Q (.ref fd) H2) : refuT K ea ce Q (.ref (ea j)) none H :=
  ej_re e fun p le H2 s nle hle np => q p _ (s.put (s.free np)) ⟨le, upd_same, by rw [upd_ne (ne_of_none hle np)]; exact hle⟩
def csOf (r : Except Nat Combs) (cs : Combs) : Combs := match r with
  | .ok c => c
  | .error _ => cs
def pastOf (r : Except Nat Combs) (cs : Combs) (past : List Combs) : List Combs := match r with
  | .ok _ => past ++ [cs]
  | .error _ => past
def ansOf (r : Except Nat Combs) (past : List Combs) : Except Nat Int := match r with
  | .ok _ => .ok ((past.length : Int) + 1)
  | .error j => .error j
theorem deed_try {K : PySem.W.Frag} {ea : Nat → Addr} {ce : Value} {C b l : Addr} {G : Addr → Prop} {H : Hp} {cs : Combs} {past : List Combs} {Q : VK} {r : Except Nat Combs} (B : Bk C G H b l cs past) (ej : ∀ j, r = .error j → EJ K ea ce j)
    (q : ∀ Hx fd Gx, Mv b l G Gx H Hx → Bk C Gx Hx b l (csOf r cs) (pastOf r cs past) → Ans Hx fd (ansOf r past) → Q (.ref fd) Hx) : Deed ea C G H b l cs past (tellT Q) (refuT K ea ce Q) r := by
  cases r with
  | error j =>
    intro H' s
    exact ej_ans (ej j rfl) fun fd H2 s2 a => q H2 fd G (Mv.ofSame (s.trans s2)) (B.same (s.trans s2)) a
  | ok cs' =>
    intro H' G' m B'
    refine ⟨bigr rfl, fun p np => ?_⟩
    have s2 : Same H' (upd H' p (.tup [.str (Str.ofString "told"), .int ((past.length : Int) + 1)])) := Same.new np
    exact q _ p G' (m.trans (Mv.ofSame s2)) (B'.same s2) upd_same
def spLaw (K : PySem.W.Frag) : Sp := fun vs H Q _ => ∃ (a : Addr) (ns : List Int), vs = [.ref a] ∧ SqL K H a (ns.map V.int) ∧ ns.length ≤ 63 ∧ ∀ H', Q (.bl true) H'
def raw (c : Int) : Int := if c < 0 then -((-c) % 10 ^ 40) else c % 10 ^ 40
theorem p40 : (0 : Int) < 10 ^ (40 : Int).toNat := by decide
def sp_raw : Sp := fun vs H Q _ => ∃ (c : Int), vs = [.int c] ∧ Q (.int (raw c)) H
theorem sc_raw : FnScope ["_law_cell"] ["_law_cell"] (defScope s_raw) := ⟨rfl, rfl, rfl, by decide +kernel, rfl, by decide +kernel, by decide +kernel⟩
theorem ok_raw (D : DefAt K mg "_law_raw" s_raw) (T : Bn mg) : Callee P w K mg base "_law_raw" 1 ["_law_cell"] sp_raw := by
  refine D.callee sc_raw (fun _ _ _ _ _ _ us hl => match us, hl with | [_], _ => rfl) (fun vs H Q E h => ?_) (fun f cdv A outer s H vs Q E hr h => ?_)
  · obtain ⟨c, rfl, _⟩ := h
    rfl
  · obtain ⟨c, rfl, q⟩ := h
    have S := sc_raw
    unfold raw at q
    refine ⟨_, pss_cons (ps_if (pt_cmpR op_lt (pv 0) (pe_int) (nomark _))
      (pss_one (ps_ret (pe_un un_neg (pe_op op_mod (pe_un un_neg (pv 0)) (pe_op op_pow (pe_int) (pe_int))))))
      (pss_nil))
    (pss_one (ps_ret (pe_op op_mod (pv 0) (pe_op op_pow (pe_int) (pe_int))))), ?_⟩
    refine ⟨_, rfl, _, _, rfl, rfl, _, rfl, ?_⟩
    refine ite2 (fun hc => ?_) (fun hc => ?_)
    · rw [if_pos (of_decide_eq_true hc)] at q
      exact ⟨_, rfl, _, rfl, _, _, rfl, rfl, ⟨by decide, by decide, by decide⟩, _, _, rfl, rfl, p40, _, rfl, q⟩
    · rw [if_neg (fun z => hc (decide_eq_true z))] at q
      exact ⟨_, rfl, _, _, rfl, rfl, ⟨by decide, by decide, by decide⟩, _, _, rfl, rfl, p40, q⟩
--CUT--
theorem errs_ok : ∀ j, j < 15 → PyData.strOk (errName j) = true ∧ errName j ≠ Str.ofString "" := by decide +kernel
theorem mem_get {cs : Combs} (nd : (cs.map (·.1)).Nodup) {c : Str × List Int} (h : c ∈ cs) : cGet cs c.1 = some c.2 := by
  induction cs with
  | nil => cases h
  | cons d cs ih =>
    rw [get_cons]
    rw [List.map_cons, List.nodup_cons] at nd
    rcases List.mem_cons.mp h with rfl | h
    · exact if_pos rfl
    · rw [if_neg (fun z : d.1 = c.1 => nd.1 (z ▸ List.mem_map.mpr ⟨c, h, rfl⟩))]
      exact ih nd.2 h
theorem by_same {cs ks : Combs} (nd : (cs.map (·.1)).Nodup) (p : ks.Perm cs) : byNames cs (ks.map (·.1)) = ks := by
  unfold byNames
  rw [List.map_map]
  conv => rhs; rw [← List.map_id ks]
  refine List.map_congr_left fun k hk => ?_
  show (k.1, (cGet cs k.1).getD []) = k
  rw [mem_get nd (p.mem_iff.mp hk)]
  rfl
theorem goes_one {cs : Combs} {ah : List Int} {g : Str × List Int} (h : g ∈ goesOf cs ah) : (∀ d ∈ g.2, 0 ≤ d ∧ d ≤ 6) ∧ g.2.length ≤ 1000 := by
  have : ∃ a b, g.2 = afterOf a b := by
    unfold goesOf at h
    split at h
    · rw [List.mem_singleton.mp h]; exact ⟨_, _, rfl⟩
    · obtain ⟨c, _, rfl⟩ := List.mem_map.mp h; exact ⟨_, _, rfl⟩
  obtain ⟨a, b, e⟩ := this
  rw [e]
  refine ⟨after_in, ?_⟩
  unfold afterOf
  rw [List.length_map]
  refine Nat.le_trans (List.length_filter_le _ _) ?_
  unfold canon
  rw [List.length_map]
  exact Nat.le_trans (List.length_filter_le _ _) (Nat.le_of_ble_eq_true rfl)
theorem sc_law : FnScope ["_law_script", "_law_kinds", "_law_book_here", "_law_cell", "_law_number_here", "_law_first", "_law_found", "_law_due", "_law_k", "_law_one"] ["_law_script"] (defScope s_law) := ⟨rfl, rfl, rfl, by decide +kernel, rfl, by decide +kernel, by decide +kernel⟩
theorem ok_law {ea : Nat → Addr} {ce : Value} {C : Addr} (D : DefAt K mg "law" s_law) (T : Bn mg) (E11 : EJ K ea ce 11) (V_SHAPES : ∃ t, mg "SHAPES" = some (.int 128 t)) (C_at : Callee P w K mg base "_law_at" 1 ["_law_script", "_law_k"] (sp_at K)) (C_combs : Callee P w K mg base "_law_combs" 2 ["_law_script"] (sp_combs K)) (C_book : Callee P w K mg base "_law_book" 4 ["_law_kinds"] (sp_mkbook C))
    (C_raw : Callee P w K mg base "_law_raw" 1 ["_law_cell"] sp_raw) (C_steps : Callee P w K mg base "_law_steps" 4 ["_law_book_here", "_law_number_here"] (spTryF K ea ce (sp_steps ea C))) (C_goes : Callee P w K mg base "_law_goes" 2 ["_law_kinds", "_law_ahead_here"] (sp_goes K)) (C_ahead : Callee P w K mg base "_law_ahead" 1 ["_law_number_here"] sp_ahead) (C_number : Callee P w K mg base "_law_number" 1 ["_law_ahead_here"] (sp_number K))
    (C_refused : Callee P w K mg base "_law_refused" 2 ["_law_found", "_law_due"] (sp_refused K)) (C_whole : Callee P w K mg base "_law_whole" 1 ["_law_found"] sp_whole) : Callee P w K mg base "law" 5 ["_law_script"] (spLaw K) := by
  refine D.callee sc_law (fun _ _ _ _ _ _ us hl => match us, hl with | [_], _ => rfl) (fun vs H Q E h => ?_) (fun f cdv A outer s H vs Q E hr h => ?_)
  · obtain ⟨a, ns, rfl, _⟩ := h
    rfl
  · obtain ⟨a, ns, rfl, hS, hl, q⟩ := h
    have S := sc_law
    have hu := hu_of hr
    refine ⟨_, pss_cons (ps_set (i := 1) S.nd rfl (Or.inl rfl) (pe_fn C_combs (hr.mono (by decide)) rfl (pa_cons (pv 0) pa_nil)))
    (pss_cons (ps_set (i := 2) S.nd rfl (Or.inl rfl) (pe_fn C_book (hr.mono (by decide)) rfl (pa_cons (pv 1) pa_nil)))
    (pss_cons (ps_set (i := 3) S.nd rfl (Or.inl rfl) (pe_fn C_at (hr.mono (by decide)) rfl (pa_cons (pv 0) (pa_cons (pe_int) pa_nil))))
    (pss_cons (ps_set (i := 4) S.nd rfl (Or.inl rfl) (pe_op op_mod (pv 3) (pe_int)))
    (pss_cut (ps_if (pt_cmpR op_eq (pe_op op_mod (pe_op op_fdiv (pv 3) (pe_int)) (pe_int)) (pe_int) (nomark _))
      (pss_one (ps_set (i := 4) S.nd rfl (Or.inl rfl) (pe_ix ix_list ((qe_lst (qa_cons (qe (pe_un un_neg (pe_int))) (qa_cons (qe (pe_int)) (qa_cons (qe (pe_int)) (qa_cons (qe (pe_op op_pow (pe_int) (pe_int))) (qa_cons (qe (pe_un un_neg (pe_op op_pow (pe_int) (pe_int)))) (qa_nil))))))).h) (pe_op op_mod (pv 3) (pe_int)) (fun _ _ => rfl))))
      (pss_nil))
    (pss_cut (ps_if (pt_cmpR op_eq (pe_op op_mod (pe_op op_fdiv (pv 3) (pe_int)) (pe_int)) (pe_int) (nomark _))
      (pss_one (ps_set (i := 4) S.nd rfl (Or.inl rfl) (pe_fn C_raw (hr.mono (by decide)) rfl (pa_cons (pe_fn C_at (hr.mono (by decide)) rfl (pa_cons (pv 0) (pa_cons (pe_int) pa_nil))) pa_nil))))
      (pss_nil))
    (pss_cons (ps_if (PW.pt (pw_or (pt_cmpR op_lt (pv 4) (pe_int) (nomark _)) (pw_or1 (pt_cmpR op_gt (pv 4) (pe_int) (nomark _)))))
      (pss_one (ps_ret (pe_fn C_refused (hr.mono (by decide)) rfl (pa_cons (pe_fn C_steps (hr.mono (by decide)) rfl (pa_cons (pv 2) (pa_cons (pv 4) pa_nil))) (pa_cons (pe_str) pa_nil)))))
      (pss_nil))
    (pss_cons (ps_set (i := 5) S.nd rfl (Or.inl rfl) (pe_fn C_steps (hr.mono (by decide)) rfl (pa_cons (pv 2) (pa_cons (pv 4) pa_nil))))
    (pss_cons (ps_if (PW.pt (pw_or (pt_cmpR op_ne (pe_ix ix_tup (pv 5) (pe_int) (fun _ _ => rfl)) (pe_str) (nomark _)) (pw_or1 (pt_not (pt_val (pe_callB (call_isT "list") rfl T.n_isinstance boot_isinstance (pa_cons (pe_ix ix_tup (pv 5) (pe_int) (fun _ _ => rfl)) (pa_cons (pe_bltn (v := .ty "list") rfl T.n_list boot_list rfl) pa_nil))))))))
      (pss_one (ps_ret (pe_bl)))
      (pss_nil))
    (pss_cons (ps_expr (pe_bm0 PySem.F.plainAttrs_list PySem.F.slot_list_clear PySem.F.type_list_clear mt_clear (pe_ix ix_tup (pv 5) (pe_int) (fun _ _ => rfl))))
    (pss_cons (ps_set (i := 6) S.nd rfl (Or.inl rfl) (pe_fn C_steps (hr.mono (by decide)) rfl (pa_cons (pv 2) (pa_cons (pv 4) pa_nil))))
    (pss_cons (ps_set (i := 7) S.nd rfl (Or.inl rfl) (pe_fn C_goes (hr.mono (by decide)) rfl (pa_cons (pe_callB (call_sortedK hr.units) rfl T.n_sorted boot_sorted (pa_cons (pv 1) pa_nil)) (pa_cons (pe_fn C_ahead (hr.mono (by decide)) rfl (pa_cons (pv 4) pa_nil)) pa_nil))))
    (pss_cons (ps_if (PW.pt (pw_or (pt_cmpR op_ne (pe_ix ix_tup (pv 6) (pe_int) (fun _ _ => rfl)) (pe_str) (nomark _)) (pw_or (pt_not (pt_val (pe_callB (call_isT "list") rfl T.n_isinstance boot_isinstance (pa_cons (pe_ix ix_tup (pv 6) (pe_int) (fun _ _ => rfl)) (pa_cons (pe_bltn (v := .ty "list") rfl T.n_list boot_list rfl) pa_nil))))) (pw_or1 (pt_cmpR op_ne (pe_callB call_len_seq rfl T.n_len PySem.boot_len (pa_cons (pe_ix ix_tup (pv 6) (pe_int) (fun _ _ => rfl)) pa_nil)) (pe_callB call_len_seq rfl T.n_len PySem.boot_len (pa_cons (pv 7) pa_nil)) (nomark _))))))
      (pss_one (ps_ret (pe_bl)))
      (pss_nil))
    (pss_cons (ps_for PassesOwn.never rfl (pi_range1 rfl T.n_range (pa_cons (pe_callB call_len_seq rfl T.n_len PySem.boot_len (pa_cons (pv 7) pa_nil)) pa_nil)) (pg_name (i := 8) S.nd rfl (Or.inl rfl))
      (pss_cons (ps_set (i := 9) S.nd rfl (Or.inl rfl) (pe_ix ix_list (pe_ix ix_tup (pv 6) (pe_int) (fun _ _ => rfl)) (pv 8) (fun _ _ => rfl)))
      (pss_cons (ps_if (PW.pt (pw_or (pt_not (pt_val (pe_callB (call_isT "tuple") rfl T.n_isinstance boot_isinstance (pa_cons (pv 9) (pa_cons (pe_bltn (v := .ty "tuple") rfl T.n_tuple boot_tuple rfl) pa_nil))))) (pw_or1 (pt_cmpR op_ne (pe_callB call_len_seq rfl T.n_len PySem.boot_len (pa_cons (pv 9) pa_nil)) (pe_int) (nomark _)))))
        (pss_one (ps_ret (pe_bl)))
        (pss_nil))
      (pss_cons (ps_if (PW.pt (pw_or (pt_not (pt_val (pe_callB (call_isT "str") rfl T.n_isinstance boot_isinstance (pa_cons (pe_ix ix_tup (pv 9) (pe_int) (fun _ _ => rfl)) (pa_cons (pe_bltn (v := .ty "str") rfl T.n_str boot_str rfl) pa_nil))))) (pw_or1 (pt_cmpR op_ne (pe_ix ix_tup (pv 9) (pe_int) (fun _ _ => rfl)) (pe_ix ix_tup (pe_ix ix_list (pv 7) (pv 8) (fun _ _ => rfl)) (pe_int) (fun _ _ => rfl)) (nomark _)))))
        (pss_one (ps_ret (pe_bl)))
        (pss_nil))
      (pss_one (ps_if (PW.pt (pw_or (pt_not (pt_val (pe_fn C_whole (hr.mono (by decide)) rfl (pa_cons (pe_ix ix_tup (pv 9) (pe_int) (fun _ _ => rfl)) pa_nil)))) (pw_or1 (pt_cmpR op_ne (pe_ix ix_tup (pv 9) (pe_int) (fun _ _ => rfl)) (pe_fn C_number (hr.mono (by decide)) rfl (pa_cons (pe_ix ix_tup (pe_ix ix_list (pv 7) (pv 8) (fun _ _ => rfl)) (pe_int) (fun _ _ => rfl)) pa_nil)) (nomark _)))))
        (pss_one (ps_ret (pe_bl)))
        (pss_nil)))))))
    (pss_one (ps_ret (pe_and (pe_fn C_whole (hr.mono (by decide)) rfl (pa_cons (pe_gint rfl V_SHAPES) pa_nil)) (pe_one (pe_cmpR op_eq (pe_gint rfl V_SHAPES) (pe_int) (nomark _))))))))))))))))))), ?_⟩
    refine ⟨_, rfl, a, ns, rfl, hS, fun pk ks ws H1 s1 npk hpk dr hk8 => ?_⟩
    refine ⟨_, rfl, pk, ws, ks, rfl, hpk, dr, hk8, fun b l G past H2 s2 nb nl nG B hpl => ?_⟩
    have hpk2 := s2 _ _ hpk
    have s12 := s1.trans s2
    have p128 : (0 : Int) < 128 := by decide
    have p5 : (0 : Int) < 5 := by decide
    have p8 : (0 : Int) < 8 := by decide
    refine ⟨_, rfl, a, ns, 9, rfl, s12.seq hS, by decide, ?_⟩
    refine ⟨_, rfl, _, _, rfl, rfl, p128, ?_⟩
    generalize (ns.getD (9 : Int).toNat 0) = c
    refine ⟨fun σ Hx => Same H2 Hx ∧ ∃ n, σ = [some (.ref a), some (.ref pk), some (.ref b), some (.int c), some (.int n), none, none, none, none, none], ?_, ?_⟩
    · refine ⟨_, rfl, _, _, rfl, rfl, ⟨p128, by decide⟩, _, _, rfl, rfl, p8, rfl, _, rfl, ?_⟩
      refine ite2 (fun _ => ?_) (fun _ => ?_)
      · have i0 := Int.emod_nonneg c (show (5 : Int) ≠ 0 by decide)
        have i1 := Int.emod_lt_of_pos c p5
        refine ⟨_, rfl, _, _, rfl, rfl, ⟨by decide, by decide, by decide⟩, _, _, rfl, rfl, ⟨by decide, by decide, by decide⟩, _, rfl, bigr rfl, fun p np => ?_⟩
        exact ⟨_, rfl, _, _, rfl, rfl, p5, _, [-1, 128, 129, 10 ^ (30 : Int).toNat, -10 ^ (30 : Int).toNat].map V.int, _, _, rfl, rfl, SqL.of upd_same, at_get i0 i1, Same.new np, _, rfl⟩
      · exact ⟨Same.refl _, _, rfl⟩
    rintro σ Hc1 ⟨sc1, n1, rfl⟩
    refine ⟨fun σ Hx => Same H2 Hx ∧ ∃ n, σ = [some (.ref a), some (.ref pk), some (.ref b), some (.int c), some (.int n), none, none, none, none, none], ?_, ?_⟩
    · refine ⟨_, rfl, _, _, rfl, rfl, ⟨p128, by decide⟩, _, _, rfl, rfl, p8, rfl, _, rfl, ?_⟩
      refine ite2 (fun _ => ?_) (fun _ => ?_)
      · exact ⟨_, rfl, a, ns, 10, rfl, (s12.trans sc1).seq hS, by decide, _, rfl, sc1, _, rfl⟩
      · exact ⟨sc1, _, rfl⟩
    rintro σ H3 ⟨s3, n, rfl⟩
    have B3 := B.same s3
    have ok11 := errs_ok 11 (by decide)
    refine ⟨_, rfl, _, _, rfl, rfl, _, rfl, ?_⟩
    refine ite2 (fun h0 => ?_) (fun h0 => ?_)
    · have h0 : n < 0 := by simpa using h0
      refine ⟨_, rfl, _, rfl, _, _, rfl, b, l, G, ks, past, n, rfl, B3, ?_⟩
      rw [if_neg (fun z => by omega)]
      refine ej_ans E11 fun fd H4 s4 an => ?_
      obtain ⟨le, e1, e2⟩ := an
      exact ⟨fd, le, _, rfl, ok11.1, e1, e2, fun H5 _ => q H5⟩
    have h0 : 0 ≤ n := by simpa using h0
    refine ⟨_, rfl, _, _, rfl, rfl, _, rfl, ?_⟩
    refine ite2 (fun h1 => ?_) (fun h1 => ?_)
    · have h1 : 127 < n := by simpa using h1
      refine ⟨_, rfl, _, rfl, _, _, rfl, b, l, G, ks, past, n, rfl, B3, ?_⟩
      rw [if_neg (fun z => by omega)]
      refine ej_ans E11 fun fd H4 s4 an => ?_
      obtain ⟨le, e1, e2⟩ := an
      exact ⟨fd, le, _, rfl, ok11.1, e1, e2, fun H5 _ => q H5⟩
    have h1 : n < 128 := by
      have : ¬ 127 < n := by simpa using h1
      omega
    refine ⟨_, rfl, _, rfl, _, _, rfl, b, l, G, ks, past, n, rfl, B3, ?_⟩
    rw [if_pos ⟨h0, h1⟩]
    intro p1 H4 ws1 s4 np1 hp1 _
    refine ⟨bigr rfl, fun t1 nt1 => ?_⟩
    have s5 : Same H3 (upd H4 t1 (.tup [.str (Str.ofString "told"), .ref p1])) := s4.trans (Same.new nt1)
    have hp1' : upd H4 t1 (.tup [.str (Str.ofString "told"), .ref p1]) p1 = some (.lst ws1) := by rw [upd_ne (ne_of_none hp1 nt1)]; exact hp1
    refine ⟨_, rfl, _, _, _, _, rfl, rfl, SqT.of upd_same, at0, rfl, _, rfl, ?_⟩
    refine iteF ?_
    refine ⟨_, rfl, _, _, _, _, rfl, rfl, SqT.of upd_same, at1, _, _, true, rfl, .lst hp1', rfl, _, rfl, ?_⟩
    refine iteF ?_
    refine ⟨_, rfl, _, _, _, _, rfl, rfl, SqT.of upd_same, at1, .inl ⟨rfl, _, SqL.of hp1'⟩, p1, ws1, rfl, rfl, hp1', ?_⟩
    have s6 : Same H3 (upd (upd H4 t1 (.tup [.str (Str.ofString "told"), .ref p1])) p1 (.lst [])) := s5.put np1
    generalize upd (upd H4 t1 (.tup [.str (Str.ofString "told"), .ref p1])) p1 (.lst []) = H6 at s6 ⊢
    refine ⟨_, rfl, _, rfl, _, _, rfl, b, l, G, ks, past, n, rfl, B3.same s6, ?_⟩
    rw [if_pos ⟨h0, h1⟩]
    intro p2 H7 ws2 s7 np2 hp2 st2
    refine ⟨bigr rfl, fun t2 nt2 => ?_⟩
    have s8 : Same H7 (upd H7 t2 (.tup [.str (Str.ofString "told"), .ref p2])) := Same.new nt2
    have s28 := ((s3.trans s6).trans s7).trans s8
    have ht2 : upd H7 t2 (.tup [.str (Str.ofString "told"), .ref p2]) t2 = some (.tup [.str (Str.ofString "told"), .ref p2]) := upd_same
    have hp2' := s8 _ _ hp2
    generalize upd H7 t2 (.tup [.str (Str.ofString "told"), .ref p2]) = H8 at s8 s28 ht2 hp2' ⊢
    refine ⟨_, rfl, pk, ws, ks, _, rfl, s28 _ _ hpk2, (dr.same (s2.trans s28)).rows, dr.nd, by omega, fun pz wz kz npz kk pp so => ?_⟩
    have s9 : Same H8 (upd H8 pz (.lst wz)) := Same.new npz
    have hpz : upd H8 pz (.lst wz) pz = some (.lst wz) := upd_same
    generalize upd H8 pz (.lst wz) = H9 at s9 hpz ⊢
    have hkz : kz.length ≤ 8 := by rw [pp.length_eq]; omega
    have hgz : ∀ k ∈ kz, GT k.2 := fun k hk => (dr.good k (pp.mem_iff.mp hk)).2
    refine ⟨_, rfl, n, rfl, h0, fun pa Ha sa ha => ?_⟩
    refine ⟨pz, pa, wz, kz, aheadOf n, rfl, sa _ _ hpz, kk.same (s9.trans sa), by omega, hgz, SqT.of ha, ahead_nodup n, ahead_in, fun pd Hd vd sd npd hpd gr => ?_⟩
    have sd8 := (s9.trans sa).trans sd
    have ht := sd8 _ _ ht2
    have hp := sd8 _ _ hp2'
    have st := (st2 (kz.map (·.1)) (pp.map _) so).mono (fun qa xs e => sd8 _ _ (s8 _ _ e))
    rw [by_same dr.nd pp, ← steps_goes h0 h1 hgz] at st
    have hl2 : ws2.length = vd.length := by rw [st.length, List.length_map, gr.length]
    have hvl : vd.length ≤ 9 := by
      rw [gr.length, ← List.length_map (f := fun p : Str × List Int => (p.1, worth p.2)), steps_goes h0 h1 hgz]
      by_cases e : n % 2 = 1
      · rw [steps_odd e]
        exact Nat.le_of_ble_eq_true rfl
      · have := steps_len (cs := kz) e; omega
    refine ⟨_, rfl, _, _, _, _, rfl, rfl, SqT.of ht, at0, rfl, _, rfl, ?_⟩
    refine iteF ?_
    refine ⟨_, rfl, _, _, _, _, rfl, rfl, SqT.of ht, at1, _, _, true, rfl, .lst hp, rfl, _, rfl, ?_⟩
    refine iteF ?_
    refine ⟨_, rfl, _, _, _, _, rfl, rfl, SqT.of ht, at1, _, _, rfl, .inl (SqL.of hp), _, rfl, _, _, rfl, .inl (SqL.of hpd), rfl, _, rfl, ?_⟩
    rw [hl2, decide_eq_true (rfl : V.int ((vd.length : Nat) : Int) = _)]
    refine iteF ?_
    refine ⟨_, rfl, _, _, rfl, .inl (SqL.of hpd), _, rfl, by omega, by omega, ?_⟩
    refine for_g (gives_range 0 ((vd.length : Nat) : Int).toNat) (fun i σ Hx => Same Hd Hx ∧ ∃ x8 x9, σ = [some (.ref a), some (.ref pk), some (.ref b), some (.int c), some (.int n), some (.ref t1), some (.ref t2), some (.ref pd), x8, x9]) ⟨Same.refl _, _, _, rfl⟩ (fun _ _ _ _ _ => trivial) ?_ ?_
    · rintro i x σ Hx hx ⟨sx, x8, x9, rfl⟩
      obtain ⟨hi, rfl⟩ := range_int hx
      have hi : i < vd.length := by omega
      have hig : i < (goesOf kz (aheadOf n)).length := by rw [← gr.length]; exact hi
      obtain ⟨qd, td, ed, hqd, htd⟩ := (gr.mono (fun qa xs e => sx _ _ e)).get (List.getElem?_eq_getElem hig)
      obtain ⟨qs, es, hqs⟩ := (st.mono (fun qa xs e => sx _ _ e)).get (i := i) (by rw [List.getElem?_map, List.getElem?_eq_getElem hig]; rfl)
      have ad : atI vd (0 + ((i : Nat) : Int)) = some (.ref qd) := by rw [Int.zero_add]; exact atI_nat ed
      have as : atI ws2 (0 + ((i : Nat) : Int)) = some (.ref qs) := by rw [Int.zero_add]; exact atI_nat es
      have hgi : (goesOf kz (aheadOf n))[i] ∈ goesOf kz (aheadOf n) := List.getElem_mem hig
      generalize (goesOf kz (aheadOf n))[i] = gi at hqd htd hqs hgi
      refine ⟨_, rfl, _, _, _, _, rfl, rfl, SqT.of (sx _ _ ht), at1, _, rfl, _, _, _, _, rfl, rfl, SqL.of (sx _ _ hp), as, ?_⟩
      refine ⟨_, rfl, _, _, true, rfl, .tup hqs, rfl, _, rfl, ?_⟩
      refine iteF ?_
      refine ⟨_, rfl, _, _, rfl, .inr (SqT.of hqs), rfl, _, rfl, ?_⟩
      refine iteF ?_
      refine ⟨_, rfl, _, _, _, _, rfl, rfl, SqT.of hqs, at0, _, _, true, rfl, .str _, rfl, _, rfl, ?_⟩
      refine iteF ?_
      refine ⟨_, rfl, _, _, _, _, rfl, rfl, SqT.of hqs, at0, _, rfl, _, rfl, _, _, _, _, rfl, rfl, SqL.of (sx _ _ hpd), ad, _, _, _, _, rfl, rfl, SqT.of hqd, at0, rfl, _, rfl, ?_⟩
      rw [decide_eq_true (rfl : V.str gi.1 = V.str gi.1)]
      refine iteF ?_
      refine ⟨_, rfl, _, _, _, _, rfl, rfl, SqT.of hqs, at1, _, rfl, _, rfl, ?_⟩
      refine iteF ?_
      have hgr : (∀ d ∈ gi.2, 0 ≤ d ∧ d ≤ 6) ∧ gi.2.length ≤ 1000 := goes_one hgi
      refine ⟨_, rfl, _, _, _, _, rfl, rfl, SqT.of hqs, at1, _, rfl, _, rfl, _, _, _, _, rfl, rfl, SqL.of (sx _ _ hpd), ad, _, _, _, _, rfl, rfl, SqT.of hqd, at1, td, gi.2, rfl, SqT.of htd, hgr.1, hgr.2, fun H' s' => ⟨rfl, _, rfl, ?_⟩⟩
      rw [decide_eq_true (rfl : V.int (worth gi.2) = V.int (worth gi.2))]
      refine iteF ?_
      exact ⟨sx.trans s', _, _, rfl⟩
    rintro σ Hx ⟨sx, x8, x9, rfl⟩
    refine ⟨_, rfl, _, rfl, ?_⟩
    refine iteT ?_
    refine ⟨rfl, ?_⟩
    rw [decide_eq_true (rfl : V.int 128 = V.int 128)]
    exact q Hx
end
/-! ### the top -/
theorem walk {l : PySem.W.OpenLaw} {q : Program} {loose : List Str} {XP : (Str → Option Value) → Heap → Prop} {YP : World → Heap → Prop} {d : DefRec} {K : Params → PySem.W.Frag} (hn : l.most = some 63) (hdf : d.params.defaults = [])
    (hY : ∀ (w : World) (h : Heap), YP w h → (K w.params).In h)
    (F : ∀ (w : World) (mg : Str → Option Value) (fa : Addr) (h : Heap), (K w.params).In h → h.Ns mainGlobals mg → mg d.name = some (.ref fa) →
      ∃ fd : FuncData, (∀ (s : Shared) (u : Value), BindsTo s fd ⟨[u], []⟩ [("_law_script", u)]) ∧ ∀ base : Heap, (K w.params).In base → base.Ns mainGlobals mg → FnOk l.prog w (K w.params) mg base CX0 5 fa fd ["_law_script"] (spLaw (K w.params))) :
    PySem.W.WalkO q loose XP YP l.row.toRowW d [] (fun f vs => PySem.call f vs) :=
  L2.walk_of (n := 63) (k := 5) (x := "_law_script") (CX := fun _ => CX0) (sp := fun w => spLaw (K w.params)) hn (by decide) hdf ⟨rfl, by decide, by decide⟩ hY F (fun _ _ a ns hl _ hS => ⟨a, ns, rfl, hS, hl, fun _ => rfl⟩) fun _ _ _ _ _ z => z
theorem all {l : PySem.W.OpenLaw} {w : World} {K : PySem.W.Frag} {h : Heap} {mg : Str → Option Value} {fa : Addr} (X : K.In h) (G : h.Ns mainGlobals mg) (hfa : mg "law" = some (.ref fa)) (T : Bn mg)
    (V_MOST_COMBS : ∃ t, mg "MOST_COMBS" = some (.int 8 t))
    (V_MOST_NAME : ∃ t, mg "MOST_NAME" = some (.int 6 t))
    (V_MOST_TOOTH : ∃ t, mg "MOST_TOOTH" = some (.int 7 t))
    (V_MOST_DEEDS : ∃ t, mg "MOST_DEEDS" = some (.int 300 t))
    (V_SHAPES : ∃ t, mg "SHAPES" = some (.int 128 t))
    {t_TOOTH_WORTH : Addr} (G_TOOTH_WORTH : mg "TOOTH_WORTH" = some (.ref t_TOOTH_WORTH)) (TC_TOOTH_WORTH : tupChk K t_TOOTH_WORTH [1, 2, 4, 8, 16, 32, 64, 128] = true)
    {C ce a0 a1 a2 a3 a4 a5 a6 a7 a8 a9 a10 a11 a12 a13 a14 : Addr}
    (R0 : mg "BadName" = some (.ref a0))
    (R1 : mg "BadTeeth" = some (.ref a1))
    (R2 : mg "NameTaken" = some (.ref a2))
    (R3 : mg "BookFull" = some (.ref a3))
    (R4 : mg "NoComb" = some (.ref a4))
    (R5 : mg "BadTooth" = some (.ref a5))
    (R6 : mg "ToothThere" = some (.ref a6))
    (R7 : mg "FirstTooth" = some (.ref a7))
    (R8 : mg "ToothMissing" = some (.ref a8))
    (R9 : mg "DeedsFull" = some (.ref a9))
    (R10 : mg "NothingDone" = some (.ref a10))
    (R11 : mg "BadShape" = some (.ref a11))
    (R12 : mg "BadPlace" = some (.ref a12))
    (R13 : mg "BadLength" = some (.ref a13))
    (R14 : mg "NoFilling" = some (.ref a14))
    (RCE : mg "CombError" = some (.ref ce)) (HCHK : errChk K [a0, a1, a2, a3, a4, a5, a6, a7, a8, a9, a10, a11, a12, a13, a14] ce [0, 1, 2, 3, 4, 9, 11] = true)
    (INIT : InitAt K mg C "Book" "Book.__init__" s_Book___init__) (BCHK : bookChk K C = true)
    (N_put : MethAt K C "Book" "put" s_Book_put)
    (N_names : MethAt K C "Book" "names" s_Book_names)
    (N_teeth : MethAt K C "Book" "teeth" s_Book_teeth)
    (N_check_comb : MethAt K C "Book" "check_comb" s_Book_check_comb)
    (N_set_comb : MethAt K C "Book" "set_comb" s_Book_set_comb)
    (N_do_deed : MethAt K C "Book" "do_deed" s_Book_do_deed)
    (D_shape_steps : DefAt K mg "shape_steps" s_shape_steps)
    (D_teeth_worth : DefAt K mg "teeth_worth" s_teeth_worth)
    (D_is_name : DefAt K mg "is_name" s_is_name)
    (D_is_small_letter : DefAt K mg "is_small_letter" s_is_small_letter)
    (D_are_teeth : DefAt K mg "are_teeth" s_are_teeth)
    (D_at : DefAt K mg "_law_at" s_at)
    (D_mixed : DefAt K mg "_law_mixed" s_mixed)
    (D_word : DefAt K mg "_law_word" s_word)
    (D_spare : DefAt K mg "_law_spare" s_spare)
    (D_menu : DefAt K mg "_law_menu" s_menu)
    (D_combs : DefAt K mg "_law_combs" s_combs)
    (D_book : DefAt K mg "_law_book" s_book)
    (D_after : DefAt K mg "_law_after" s_after)
    (D_goes : DefAt K mg "_law_goes" s_goes)
    (D_number : DefAt K mg "_law_number" s_number)
    (D_ahead : DefAt K mg "_law_ahead" s_ahead)
    (D_kind : DefAt K mg "_law_kind" s_kind)
    (D_whole : DefAt K mg "_law_whole" s_whole)
    (D_refused : DefAt K mg "_law_refused" s_refused)
    (D_raw : DefAt K mg "_law_raw" s_raw)
    (D_steps : DefAt K mg "_law_steps" s_steps)
    (D_law : DefAt K mg "law" s_law) :
    ∃ fd : FuncData, (∀ (s : Shared) (v : Value), BindsTo s fd ⟨[v], []⟩ [("_law_script", v)]) ∧ ∀ base : Heap, K.In base → base.Ns mainGlobals mg → FnOk l.prog w K mg base CX0 5 fa fd ["_law_script"] (spLaw K) := by
  have BA := book_of BCHK
  have E (j : Nat) (hj : j ∈ [0, 1, 2, 3, 4, 9, 11]) (h15 : j < 15) := ej_of HCHK hj h15
  have E4 := E 4 (by decide) (by decide)
  refine D_law.entry hfa (fun _ _ _ _ _ _ v => rfl) fun base => ?_
  have c_kind := ok_kind (P := l.prog) (w := w) (base := base) D_kind T (ea := fun i => [a0, a1, a2, a3, a4, a5, a6, a7, a8, a9, a10, a11, a12, a13, a14].getD i 0) ⟨R0, R1, R2, R3, R4, R5, R6, R7, R8, R9, R10, R11, R12, R13, R14⟩
  have m_check := ok_check (P := l.prog) (w := w) (base := base) (ea := fun i => [a0, a1, a2, a3, a4, a5, a6, a7, a8, a9, a10, a11, a12, a13, a14].getD i 0) N_check_comb T BA (E4.err R4)
  have m_do := ok_do (P := l.prog) (w := w) (base := base) (ea := fun i => [a0, a1, a2, a3, a4, a5, a6, a7, a8, a9, a10, a11, a12, a13, a14].getD i 0) N_do_deed T BA V_MOST_DEEDS ((E 9 (by decide) (by decide)).err R9)
  have m_set := ok_set (ea := fun i => [a0, a1, a2, a3, a4, a5, a6, a7, a8, a9, a10, a11, a12, a13, a14].getD i 0) N_set_comb T BA m_do
  have m_put := ok_put (ea := fun i => [a0, a1, a2, a3, a4, a5, a6, a7, a8, a9, a10, a11, a12, a13, a14].getD i 0) N_put T BA V_MOST_COMBS ((E 0 (by decide) (by decide)).err R0) ((E 1 (by decide) (by decide)).err R1) ((E 2 (by decide) (by decide)).err R2) ((E 3 (by decide) (by decide)).err R3) (ok_name D_is_name T V_MOST_NAME (ok_small D_is_small_letter T)) (ok_teeth D_are_teeth T V_MOST_TOOTH) m_set
  have m_names := ok_names (P := l.prog) (w := w) (base := base) N_names T BA
  have m_teeth := ok_bteeth N_teeth T BA m_check
  have c_at := ok_at (P := l.prog) (w := w) (base := base) D_at T
  have c_whole := ok_whole (P := l.prog) (w := w) (base := base) D_whole T
  have c_word := ok_word (P := l.prog) (w := w) (base := base) D_word T
  have c_combs := ok_combs D_combs T c_at (ok_mixed D_mixed T) c_word (ok_spare D_spare T) (ok_menu D_menu T)
  have c_book : L2.Callee l.prog w K mg base "_law_book" 4 ["_law_kinds"] (sp_mkbook C) := by
    obtain ⟨fi, fdi, mk, fu⟩ := INIT.ex
    exact ok_mkbook D_book T BA ⟨fi, fdi, mk, ok_init fu T BA, INIT.m, fu.binds (fun _ _ _ _ _ _ us hl => match us, hl with | [_], _ => rfl)⟩ m_put
  have f_steps := ok_steps (ea := fun i => [a0, a1, a2, a3, a4, a5, a6, a7, a8, a9, a10, a11, a12, a13, a14].getD i 0) D_shape_steps T BA V_SHAPES ((E 11 (by decide) (by decide)).err R11) (ok_worth D_teeth_worth T G_TOOTH_WORTH (tup_chk TC_TOOTH_WORTH)) m_names m_teeth
  exact ok_law (ea := fun i => [a0, a1, a2, a3, a4, a5, a6, a7, a8, a9, a10, a11, a12, a13, a14].getD i 0) D_law T (E 11 (by decide) (by decide)) V_SHAPES c_at c_combs c_book (ok_raw D_raw T) (ok_tsteps D_steps T RCE c_kind f_steps) (ok_goes D_goes T (ok_after D_after T)) (ok_ahead D_ahead T) (ok_number D_number T) (ok_refused D_refused T) c_whole
end K09
--CUT2--
open PySem PySem.W PyProof.Rows
def PySem.W.Fast.tw17973459533008669263 : Unit := ()
def PySem.W.Fast.tw12354954633661174875 : Unit := ()
def PySem.W.Fast.tw10867196790475206879 : Unit := ()
def PySem.W.Fast.tw10561473515816448805 : Unit := ()
def PySem.W.Fast.tw10321595954982527060 : Unit := ()
def PySem.W.Fast.tw12827155748435218279 : Unit := ()
def PySem.W.Fast.tw4781075633630034841 : Unit := ()
def PySem.W.Fast.tw2710302279273023812 : Unit := ()
def PySem.W.Fast.tw6019521755890860764 : Unit := ()
def PySem.W.Fast.tw4019687629101355 : Unit := ()
def PySem.W.Fast.tw2002119782553542293 : Unit := ()
def PySem.W.Fast.tw12995196432908225690 : Unit := ()
def PySem.W.Fast.tw11615191944686010736 : Unit := ()
def PySem.W.Fast.tw16517581554398710706 : Unit := ()
def PySem.W.Fast.tw6484967433258812107 : Unit := ()
def PySem.W.Fast.tw9368905965205608401 : Unit := ()
def PySem.W.Fast.tw8783974328304724366 : Unit := ()
def PySem.W.Fast.tw2823812455514929538 : Unit := ()
def PySem.W.Fast.tw5946830696472421916 : Unit := ()
def PySem.W.Fast.tw2277250160128838512 : Unit := ()
def PySem.W.Fast.tw832011850820212933 : Unit := ()
def PySem.W.Fast.tw5667751098454371999 : Unit := ()
def PySem.W.Fast.tw5698775963101296564 : Unit := ()
def PySem.W.Fast.tw14476925181315026371 : Unit := ()
def PySem.W.Fast.tw3048268252881428234 : Unit := ()
def PySem.W.Fast.tw5617253727017436205 : Unit := ()
def PySem.W.Fast.tw7560686990423867294 : Unit := ()
def PySem.W.Fast.tw12253255770424868484 : Unit := ()
def PySem.W.Fast.tw11429638737209643840 : Unit := ()
def PySem.W.Fast.tw14826004419946737573 : Unit := ()
def PySem.W.Fast.tw7746445679258656527 : Unit := ()
def PySem.W.Fast.tw10954516006585300862 : Unit := ()
def PySem.W.Fast.tw185664097201571183 : Unit := ()
def PySem.W.Fast.tw346228250926667494 : Unit := ()
def PySem.W.Fast.tw8892572276158376766 : Unit := ()
def PySem.W.Fast.tw8100284657342731068 : Unit := ()
def PySem.W.Fast.tw17917143455670498670 : Unit := ()
def PySem.W.Fast.tw14242440934911672949 : Unit := ()
def PySem.W.Fast.tw14833130389291380838 : Unit := ()
def PySem.W.Fast.tw14260488032985841180 : Unit := ()
def PySem.W.Fast.tw12301844979215604975 : Unit := ()
def PySem.W.Fast.tw14840486733305507141 : Unit := ()
def PySem.W.Fast.tw9413117365665551219 : Unit := ()
def PySem.W.Fast.tw5662085608936501073 : Unit := ()
def PySem.W.Fast.tw3663009367676954798 : Unit := ()
def PySem.W.Fast.tw4769028553035021774 : Unit := ()
def PySem.W.Fast.tw4178353167326071429 : Unit := ()
def PySem.W.Fast.tw6299413718453986894 : Unit := ()
def PySem.W.Fast.tw1399374430325360152 : Unit := ()
def PySem.W.Fast.tw636450469827867867 : Unit := ()
def PySem.W.Fast.tw8763645978320554577 : Unit := ()
def PySem.W.Fast.tw5766846572974719267 : Unit := ()
def PySem.W.Fast.tw13489800475899983837 : Unit := ()
def PySem.W.Fast.tw12864799372576721969 : Unit := ()
def PySem.W.Fast.tw4690391374049341089 : Unit := ()
def PySem.W.Fast.tw11324390983624334756 : Unit := ()
def PySem.W.Fast.tw4933887364973661088 : Unit := ()
def PySem.W.Fast.tw1398277276831075623 : Unit := ()
def PySem.W.Fast.tw9833032332223868573 : Unit := ()
def PySem.W.Fast.tw13065765097493206033 : Unit := ()
def PySem.W.Fast.tw15030197232517548337 : Unit := ()
def PySem.W.Fast.tw4135163437464658150 : Unit := ()
def PySem.W.Fast.tw15874611696074465453 : Unit := ()
def PySem.W.Fast.tw16917150536479342467 : Unit := ()
def PySem.W.Fast.tw17222303464846515053 : Unit := ()
def PySem.W.Fast.tw14434410393932245903 : Unit := ()
def PySem.W.Fast.tw2438644757162624876 : Unit := ()
def PySem.W.Fast.tw10017586467068070758 : Unit := ()
def PySem.W.Fast.tw7504769815668122007 : Unit := ()
def PySem.W.Fast.tw3958389694166368847 : Unit := ()
def PySem.W.Fast.tw3706395275960685565 : Unit := ()
def PySem.W.Fast.tw1201298082202648509 : Unit := ()
def PySem.W.Fast.tw5737900678780660407 : Unit := ()
def PySem.W.Fast.tw1872238695252979586 : Unit := ()
def PySem.W.Fast.tw7395927091509356734 : Unit := ()
def PySem.W.Fast.tw7024060371615399906 : Unit := ()
def PySem.W.Fast.tw15179953860118116751 : Unit := ()
def PySem.W.Fast.tw15620472413541364597 : Unit := ()
def PySem.W.Fast.tw10049811273663122321 : Unit := ()
def PySem.W.Fast.tw6350549446061690215 : Unit := ()
def PySem.W.Fast.tw17642041150917469881 : Unit := ()
def PySem.W.Fast.tw17372165699482167558 : Unit := ()
def PySem.W.Fast.tw7152945668870205736 : Unit := ()
def PySem.W.Fast.tw14833533355926512251 : Unit := ()
def PySem.W.Fast.tw3878797590921516736 : Unit := ()
def PySem.W.Fast.tw14099013793991267294 : Unit := ()
def PySem.W.Fast.tw6544164799469062941 : Unit := ()
def PySem.W.Fast.tw7983348042434170247 : Unit := ()
def PySem.W.Fast.tw7458251429571052583 : Unit := ()
def PySem.W.Fast.tw3180717948973689474 : Unit := ()
def PySem.W.Fast.tw1481050625287106559 : Unit := ()
def PySem.W.Fast.tw9317816893176941240 : Unit := ()
def PySem.W.Fast.tw8602179554898656883 : Unit := ()
def PySem.W.Fast.tw454498438536463014 : Unit := ()
def PySem.W.Fast.tw9390852758721581156 : Unit := ()
def PySem.W.Fast.tw5174791654943680820 : Unit := ()
def PySem.W.Fast.tw3919529221569914775 : Unit := ()
def PySem.W.Fast.tw17922286858089618253 : Unit := ()
def PySem.W.Fast.tw14797839143791773579 : Unit := ()
def PySem.W.Fast.tw7956857703401713773 : Unit := ()
def PySem.W.Fast.tw17935017914671795881 : Unit := ()
def PySem.W.Fast.tw2841573749039927167 : Unit := ()
def PySem.W.Fast.tw535124899837658165 : Unit := ()
def PySem.W.Fast.tw10152957237405306977 : Unit := ()
def PySem.W.Fast.tw10513546065626002285 : Unit := ()
def PySem.W.Fast.tw1053260089230867028 : Unit := ()
def PySem.W.Fast.tw12699931173547220928 : Unit := ()
def PySem.W.Fast.tw3833703107334307068 : Unit := ()
def PySem.W.Fast.tw14592135427522311468 : Unit := ()
def PySem.W.Fast.tw1551574764260997341 : Unit := ()
def PySem.W.Fast.tw17228859462356786504 : Unit := ()
def PySem.W.Fast.tw14379195407747220124 : Unit := ()
def PySem.W.Fast.tw6713131453461712028 : Unit := ()
def PySem.W.Fast.tw4035704353234801923 : Unit := ()
def PySem.W.Fast.tw1261821517095929189 : Unit := ()
def PySem.W.Fast.tw13327535440939832164 : Unit := ()
def PySem.W.Fast.tw685727239811796148 : Unit := ()
def PySem.W.Fast.tw13621972517904629814 : Unit := ()
def PySem.W.Fast.tw15959378348353725888 : Unit := ()
def PySem.W.Fast.tw17048853345259337071 : Unit := ()
def PySem.W.Fast.tw13121530423913585015 : Unit := ()
def PySem.W.Fast.tw2967393419298747724 : Unit := ()
def PySem.W.Fast.tw638398469737130075 : Unit := ()
def PySem.W.Fast.tw14474262014243075261 : Unit := ()
def PySem.W.Fast.tw6676488720747624945 : Unit := ()
def PySem.W.Fast.tw11646557076642008025 : Unit := ()
def PySem.W.Fast.tw7252567866245751295 : Unit := ()
def PySem.W.Fast.tw5020429809565327871 : Unit := ()
def PySem.W.Fast.tw4888576156607227488 : Unit := ()
def PySem.W.Fast.tw14108565004651251274 : Unit := ()
def PySem.W.Fast.tw11819796066290048270 : Unit := ()
def PySem.W.Fast.tw11057867999203204299 : Unit := ()
def PySem.W.Fast.tw12411177226858049498 : Unit := ()
def PySem.W.Fast.tw12478071532771212375 : Unit := ()
def PySem.W.Fast.tw7483365209929851072 : Unit := ()
def PySem.W.Fast.tw8886295112733082311 : Unit := ()
def PySem.W.Fast.tw4292622808703494851 : Unit := ()
def PySem.W.Fast.tw2989318915889530220 : Unit := ()
def PySem.W.Fast.tw15633830542755478666 : Unit := ()
def PySem.W.Fast.tw2432071210154144629 : Unit := ()
def PySem.W.Fast.tw3566694843984652665 : Unit := ()
def PySem.W.Fast.tw11151503719688002053 : Unit := ()
def PySem.W.Fast.tw13162486811289600455 : Unit := ()
def PySem.W.Fast.tw5700945790446898071 : Unit := ()
def PySem.W.Fast.tw14672078620977575295 : Unit := ()
def PySem.W.Fast.tw4637306677567528207 : Unit := ()
def PySem.W.Fast.tw16084711324642757242 : Unit := ()
def PySem.W.Fast.tw7968505110540531079 : Unit := ()
def PySem.W.Fast.tw17049712160845408880 : Unit := ()
def PySem.W.Fast.tw1189075202503738853 : Unit := ()
def PySem.W.Fast.tw1189026121816245508 : Unit := ()
def PySem.W.Fast.tw9743746648675133178 : Unit := ()
def PySem.W.Fast.tw2904718983623843497 : Unit := ()
def PySem.W.Fast.tw12528456340274640130 : Unit := ()
def PySem.W.Fast.tw5113035666586877539 : Unit := ()
def PySem.W.Fast.tw17475574058495177781 : Unit := ()
def PySem.W.Fast.tw10560038884458099166 : Unit := ()
def PySem.W.Fast.tw4819168425074326508 : Unit := ()
def PySem.W.Fast.tw11980323465926377376 : Unit := ()
def PySem.W.Fast.tw11606353627064024443 : Unit := ()
def PySem.W.Fast.tw13555957768497493356 : Unit := ()
def PySem.W.Fast.tw12007207133819094457 : Unit := ()
def PySem.W.Fast.tw9889311026829549028 : Unit := ()
def PySem.W.Fast.tw17180739667549140619 : Unit := ()
def PySem.W.Fast.tw8938383826760000458 : Unit := ()
def PySem.W.Fast.tw14017462388589989886 : Unit := ()
def PySem.W.Fast.tw8867414046466785606 : Unit := ()
def PySem.W.Fast.tw13196940896818585857 : Unit := ()
def PySem.W.Fast.tw15753536248260703376 : Unit := ()
def PySem.W.Fast.tw3144434969443994458 : Unit := ()
def PySem.W.Fast.tw9752013026689481409 : Unit := ()
def PySem.W.Fast.tw6417287848327564593 : Unit := ()
def PySem.W.Fast.tw11228006672759363405 : Unit := ()
def PySem.W.Fast.tw18405829441651461721 : Unit := ()
def PySem.W.Fast.tw6396190367915928979 : Unit := ()
def PySem.W.Fast.tw7228663668594954836 : Unit := ()
def PySem.W.Fast.tw13941819962860382552 : Unit := ()
def PySem.W.Fast.tw9570211048273281 : Unit := ()
def PySem.W.Fast.tw10217482769685747908 : Unit := ()
def PySem.W.Fast.tw16830397578169596477 : Unit := ()
def PySem.W.Fast.tw6500298401429012234 : Unit := ()
def PySem.W.Fast.tw5994568135056668637 : Unit := ()
def PySem.W.Fast.tw13015644947498846909 : Unit := ()
def PySem.W.Fast.tw18043793397604658163 : Unit := ()
def PySem.W.Fast.tw3300716168458897000 : Unit := ()
def PySem.W.Fast.tw860703133116665200 : Unit := ()
def PySem.W.Fast.tw3079457035103730669 : Unit := ()
def PySem.W.Fast.tw1766575756740531707 : Unit := ()
def PySem.W.Fast.tw2180113451277272214 : Unit := ()
def PySem.W.Fast.tw6917192711772388424 : Unit := ()
def PySem.W.Fast.tw2302690838121297722 : Unit := ()
def PySem.W.Fast.tw2278133895120137957 : Unit := ()
def PySem.W.Fast.tw14019479158341229268 : Unit := ()
def PySem.W.Fast.tw5906688363868678720 : Unit := ()
def PySem.W.Fast.tw1333684602565426923 : Unit := ()
def PySem.W.Fast.tw5388798272719404746 : Unit := ()
def PySem.W.Fast.tw4954513124537916883 : Unit := ()
def PySem.W.Fast.tw8078238560197484795 : Unit := ()
def PySem.W.Fast.tw4912932297615701243 : Unit := ()
def PySem.W.Fast.tw7266374702060214294 : Unit := ()
def PySem.W.Fast.tw7494963656133187342 : Unit := ()
def PySem.W.Fast.tw16448332692864584882 : Unit := ()
def PySem.W.Fast.tw5115274080229658525 : Unit := ()
def PySem.W.Fast.tw7144996615385167810 : Unit := ()
def PySem.W.Fast.tw6943823575981518150 : Unit := ()
def PySem.W.Fast.tw15506554254380857672 : Unit := ()
def PySem.W.Fast.tw14028962278704226993 : Unit := ()
def PySem.W.Fast.tw7925791119801765855 : Unit := ()
def PySem.W.Fast.tw909786794735917774 : Unit := ()
def PySem.W.Fast.tw3390801088069409353 : Unit := ()
def PySem.W.Fast.tw8726474974330851131 : Unit := ()
def PySem.W.Fast.tw4404917402928465607 : Unit := ()
def PySem.W.Fast.tw601888806758939101 : Unit := ()
def PySem.W.Fast.tw7625633597382051796 : Unit := ()
def PySem.W.Fast.tw10619796649346127836 : Unit := ()
def PySem.W.Fast.tw14756062720325852516 : Unit := ()
def PySem.W.Fast.tw16539975678053830474 : Unit := ()
def PySem.W.Fast.tw1498359223084777246 : Unit := ()
def PySem.W.Fast.tw12182745190977096526 : Unit := ()
def PySem.W.Fast.tw10631444848452257671 : Unit := ()
def PySem.W.Fast.tw16666666901037766995 : Unit := ()
def PySem.W.Fast.tw3466480358864000645 : Unit := ()
def PySem.W.Fast.tw17019420121938880569 : Unit := ()
def PySem.W.Fast.tw193879702880591136 : Unit := ()
def PySem.W.Fast.tw281274093609095613 : Unit := ()
def PySem.W.Fast.tw18209748219608656531 : Unit := ()
def PySem.W.Fast.tw4542894421594250059 : Unit := ()
def PySem.W.Fast.tw16351366851422653385 : Unit := ()
def PySem.W.Fast.tw16205767528142542469 : Unit := ()
def PySem.W.Fast.tw8605941147942466325 : Unit := ()
def PySem.W.Fast.tw349025288373478072 : Unit := ()
def PySem.W.Fast.tw5358059328144227129 : Unit := ()
def PySem.W.Fast.tw9019881386177583814 : Unit := ()
def PySem.W.Fast.tw13762971103632388340 : Unit := ()
def PySem.W.Fast.tw7788793376421045817 : Unit := ()
def PySem.W.Fast.tw1125450232611770539 : Unit := ()
def PySem.W.Fast.tw16653028383990507434 : Unit := ()
def PySem.W.Fast.tw3420219199688884936 : Unit := ()
def PySem.W.Fast.tw2153128361700663627 : Unit := ()
def PySem.W.Fast.tw4725070792645341345 : Unit := ()
def PySem.W.Fast.tw14226150074506917290 : Unit := ()
def PySem.W.Fast.tw3322909630934076666 : Unit := ()
def PySem.W.Fast.tw12933696825959726292 : Unit := ()
def PySem.W.Fast.tw5652059076061023952 : Unit := ()
def PySem.W.Fast.tw12486448709838979574 : Unit := ()
def PySem.W.Fast.tw419791288309312856 : Unit := ()
def PySem.W.Fast.tw4318029022558830184 : Unit := ()
def PySem.W.Fast.tw15851041619363106296 : Unit := ()
def PySem.W.Fast.tw10966542787375805356 : Unit := ()
def PySem.W.Fast.tw9456070322929110736 : Unit := ()
def PySem.W.Fast.tw13435030938127951694 : Unit := ()
def PySem.W.Fast.tw16463297224398926983 : Unit := ()
def PySem.W.Fast.tw7359176883258486288 : Unit := ()
def PySem.W.Fast.tw11927834426435762366 : Unit := ()
def PySem.W.Fast.tw10115333710009988873 : Unit := ()
def PySem.W.Fast.tw12221935115857304874 : Unit := ()
def PySem.W.Fast.tw16434147185747983890 : Unit := ()
def PySem.W.Fast.tw12653922294842464066 : Unit := ()
def PySem.W.Fast.tw3826516748132275054 : Unit := ()
def PySem.W.Fast.tw13117370987367749817 : Unit := ()
def PySem.W.Fast.tw5160875545319170795 : Unit := ()
def PySem.W.Fast.tw12469955152150258361 : Unit := ()
def PySem.W.Fast.tw14518796459063647941 : Unit := ()
def PySem.W.Fast.tw14490105874117480195 : Unit := ()
def PySem.W.Fast.tw2146606698365305202 : Unit := ()
def PySem.W.Fast.tw15634075715542887828 : Unit := ()
def PySem.W.Fast.tw4142750782172510056 : Unit := ()
def PySem.W.Fast.tw7721151184590947955 : Unit := ()
def PySem.W.Fast.tw3448611925954191292 : Unit := ()
def PySem.W.Fast.tw4194207789233824938 : Unit := ()
def PySem.W.Fast.tw6253585143550233717 : Unit := ()
def PySem.W.Fast.tw5972870407722921389 : Unit := ()
def PySem.W.Fast.tw5176785403265962677 : Unit := ()
def PySem.W.Fast.tw3667333630434579578 : Unit := ()
def PySem.W.Fast.tw3769719414899989876 : Unit := ()
def PySem.W.Fast.tw1093899742966098667 : Unit := ()
def PySem.W.Fast.tw18088318516201078188 : Unit := ()
def PySem.W.Fast.tw10671603954334761282 : Unit := ()
def PySem.W.Fast.tw12334698468840108667 : Unit := ()
def PySem.W.Fast.tw2190137293664768932 : Unit := ()
def PySem.W.Fast.tw14290392847997464986 : Unit := ()
def PySem.W.Fast.tw11855111066566315857 : Unit := ()
def PySem.W.Fast.tw6462645844213125633 : Unit := ()
def PySem.W.Fast.tw2589466624909581655 : Unit := ()
def PySem.W.Fast.tw4464510263849699744 : Unit := ()
def PySem.W.Fast.tw6648574548874481922 : Unit := ()
def PySem.W.Fast.tw4807267444967466321 : Unit := ()
def PySem.W.Fast.tw2091367632072230978 : Unit := ()
def PySem.W.Fast.tw16971126312637004095 : Unit := ()
def PySem.W.Fast.tw15543258550954102957 : Unit := ()
def PySem.W.Fast.tw4301528481539212969 : Unit := ()
def PySem.W.Fast.tw16518864996952977569 : Unit := ()
def PySem.W.Fast.tw13042431636905353355 : Unit := ()
def PySem.W.Fast.tw17476103657948575702 : Unit := ()
def PySem.W.Fast.tw8907940845904169832 : Unit := ()
def PySem.W.Fast.tw15035530610053939488 : Unit := ()
def PySem.W.Fast.tw1264889039493873592 : Unit := ()
def PySem.W.Fast.tw14701983511598376767 : Unit := ()
def PySem.W.Fast.tw2294883278839205242 : Unit := ()
def PySem.W.Fast.tw5909765859500728443 : Unit := ()
def PySem.W.Fast.tw15199266623484218666 : Unit := ()
def PySem.W.Fast.tw11808364091059800561 : Unit := ()
def PySem.W.Fast.tw14570346060367961456 : Unit := ()
def PySem.W.Fast.tw10303460174535084305 : Unit := ()
def PySem.W.Fast.tw6884415653257364635 : Unit := ()
def PySem.W.Fast.tw12869992981245950587 : Unit := ()
def PySem.W.Fast.tw17247385769306487430 : Unit := ()
def PySem.W.Fast.tw6962424171501167320 : Unit := ()
def PySem.W.Fast.tw3945325694558868916 : Unit := ()
def PySem.W.Fast.tw10762459083622686938 : Unit := ()
def PySem.W.Fast.tw7543958863348563775 : Unit := ()
def PySem.W.Fast.tw3023587884079713586 : Unit := ()
def PySem.W.Fast.tw9567670079317015680 : Unit := ()
def PySem.W.Fast.tw6185268363637216515 : Unit := ()
def PySem.W.Fast.tw14867232234152318381 : Unit := ()
def PySem.W.Fast.tw12740531602998616132 : Unit := ()
def PySem.W.Fast.tw13395200191931422166 : Unit := ()
def PySem.W.Fast.tw10054738689875448406 : Unit := ()
def PySem.W.Fast.tw10702315829658582115 : Unit := ()
def PySem.W.Fast.tw1021302713365908112 : Unit := ()
def PySem.W.Fast.tw3379305148930039470 : Unit := ()
def PySem.W.Fast.tw7219835827952113510 : Unit := ()
def PySem.W.Fast.tw16602224103485548320 : Unit := ()
def PySem.W.Fast.tw11535827520480597699 : Unit := ()
def PySem.W.Fast.tw7601359563749985448 : Unit := ()
def PySem.W.Fast.tw9305468850556450794 : Unit := ()
def PySem.W.Fast.tw5541662400662918776 : Unit := ()
def PySem.W.Fast.tw7361494700078434133 : Unit := ()
def PySem.W.Fast.tw17925984093054853602 : Unit := ()
def PySem.W.Fast.tw16060252730903594364 : Unit := ()
def PySem.W.Fast.tw15767388406349309824 : Unit := ()
def PySem.W.Fast.tw14452128389410068952 : Unit := ()
def PySem.W.Fast.tw9920580727059006748 : Unit := ()
def PySem.W.Fast.tw12984987284941407425 : Unit := ()
def PySem.W.Fast.tw1674567723608800613 : Unit := ()
def PySem.W.Fast.tw12378023697235696855 : Unit := ()
def PySem.W.Fast.tw17570094582811139489 : Unit := ()
def PySem.W.Fast.tw11845300796803211447 : Unit := ()
def PySem.W.Fast.tw878466224780366015 : Unit := ()
def PySem.W.Fast.tw9934045346149256693 : Unit := ()
def PySem.W.Fast.tw7287878141999125209 : Unit := ()
def PySem.W.Fast.tw7413254012763994398 : Unit := ()
def PySem.W.Fast.tw11610257175211858623 : Unit := ()
def PySem.W.Fast.tw1865666935244822549 : Unit := ()
def PySem.W.Fast.tw16360228355249656400 : Unit := ()
def PySem.W.Fast.tw495042023851123068 : Unit := ()
def PySem.W.Fast.tw8382771291260349690 : Unit := ()
def PySem.W.Fast.tw14846301081309486808 : Unit := ()
def PySem.W.Fast.tw11592862536100936233 : Unit := ()
def PySem.W.Fast.tw17076664095946762708 : Unit := ()
def PySem.W.Fast.tw6362313144788172801 : Unit := ()
def PySem.W.Fast.tw10762844074400828553 : Unit := ()
def PySem.W.Fast.tw6991399264143471204 : Unit := ()
def PySem.W.Fast.tw5452134905337164574 : Unit := ()
def PySem.W.Fast.tw11769065106464030039 : Unit := ()
def PySem.W.Fast.tw17606667275421515936 : Unit := ()
def PySem.W.Fast.tw320858768364527533 : Unit := ()
def PySem.W.Fast.tw7421117497853548689 : Unit := ()
def PySem.W.Fast.tw16660656173500039047 : Unit := ()
def PySem.W.Fast.tw737009194961885094 : Unit := ()
def PySem.W.Fast.tw17943258078764045615 : Unit := ()
def PySem.W.Fast.tw16964507802030591509 : Unit := ()
def PySem.W.Fast.tw7274476071491443655 : Unit := ()
def PySem.W.Fast.tw5866239096858108514 : Unit := ()
def PySem.W.Fast.tw2217527983766281019 : Unit := ()
def PySem.W.Fast.tw6474769969538213476 : Unit := ()
def PySem.W.Fast.tw9779157978602165408 : Unit := ()
def PySem.W.Fast.tw15945810620507899084 : Unit := ()
def PySem.W.Fast.tw18148790234477672872 : Unit := ()
def PySem.W.Fast.tw5412873398011745495 : Unit := ()
def PySem.W.Fast.tw16851957324163925894 : Unit := ()
def PySem.W.Fast.tw13945576330662608002 : Unit := ()
def PySem.W.Fast.tw1604208626463203840 : Unit := ()
def PySem.W.Fast.tw1539943447232943386 : Unit := ()
def PySem.W.Fast.tw11012297855324551585 : Unit := ()
def PySem.W.Fast.tw9551565161963998650 : Unit := ()
def PySem.W.Fast.tw17690283301663226148 : Unit := ()
def PySem.W.Fast.tw4944691359380526085 : Unit := ()
def PySem.W.Fast.tw9402672722010660831 : Unit := ()
def PySem.W.Fast.tw10603421455407522159 : Unit := ()
def PySem.W.Fast.tw18390346635891707127 : Unit := ()
def PySem.W.Fast.tw12479576165576907376 : Unit := ()
def PySem.W.Fast.tw3911892078606667663 : Unit := ()
def PySem.W.Fast.tw10594182014565100734 : Unit := ()
def PySem.W.Fast.tw16582254831709294232 : Unit := ()
def PySem.W.Fast.tw14439651527629561106 : Unit := ()
def PySem.W.Fast.tw676844031736912798 : Unit := ()
def PySem.W.Fast.tw12470591232325804086 : Unit := ()
def PySem.W.Fast.tw13365632848072997326 : Unit := ()
def PySem.W.Fast.tw5905574173327622287 : Unit := ()
def PySem.W.Fast.tw14338464282974075600 : Unit := ()
def PySem.W.Fast.tw16139738503203424809 : Unit := ()
def PySem.W.Fast.tw18200332660985091258 : Unit := ()
def PySem.W.Fast.tw15712330372075287281 : Unit := ()
def PySem.W.Fast.tw9070936480358018670 : Unit := ()
def PySem.W.Fast.tw6636371646067725333 : Unit := ()
def PySem.W.Fast.tw6367261270994120085 : Unit := ()
def PySem.W.Fast.tw3532552533297117323 : Unit := ()
def PySem.W.Fast.tw7093569254785937953 : Unit := ()
def PySem.W.Fast.tw10203468593009768440 : Unit := ()
def PySem.W.Fast.tw9450374906553402200 : Unit := ()
def PySem.W.Fast.tw12253469215312259970 : Unit := ()
def PySem.W.Fast.tw6408863744493959520 : Unit := ()
def PySem.W.Fast.tw10188987555356392494 : Unit := ()
def PySem.W.Fast.tw3508102306256260978 : Unit := ()
def PySem.W.Fast.tw16052267588844645522 : Unit := ()
def PySem.W.Fast.tw12696056000789080994 : Unit := ()
def PySem.W.Fast.tw13538360896348954768 : Unit := ()
def PySem.W.Fast.tw8578281608925777473 : Unit := ()
def PySem.W.Fast.tw18049465825064059200 : Unit := ()
def PySem.W.Fast.tw380830300759876702 : Unit := ()
def PySem.W.Fast.tw11463007060914772199 : Unit := ()
def PySem.W.Fast.tw11278306152583980271 : Unit := ()
def PySem.W.Fast.tw16621524422609919054 : Unit := ()
def PySem.W.Fast.tw6453079121755453254 : Unit := ()
def PySem.W.Fast.tw11640402140637164245 : Unit := ()
def PySem.W.Fast.tw16132154074239353730 : Unit := ()
def PySem.W.Fast.tw13934586986615289461 : Unit := ()
def PySem.W.Fast.tw2338446848506434624 : Unit := ()
def PySem.W.Fast.tw473232812693584762 : Unit := ()
def PySem.W.Fast.tw18022122018022920334 : Unit := ()
def PySem.W.Fast.tw16748108919910807246 : Unit := ()
def PySem.W.Fast.tw12943631205775473217 : Unit := ()
def PySem.W.Fast.tw3162239002597035144 : Unit := ()
def PySem.W.Fast.tw4531478200467742517 : Unit := ()
def PySem.W.Fast.tw152690560492685094 : Unit := ()
def PySem.W.Fast.tw826841262660367991 : Unit := ()
def PySem.W.Fast.tw12208077395753971064 : Unit := ()
def PySem.W.Fast.tw3733139140162172229 : Unit := ()
def PySem.W.Fast.tw12460806824668008489 : Unit := ()
def PySem.W.Fast.tw10797461502830720424 : Unit := ()
def PySem.W.Fast.tw1261456902130014781 : Unit := ()
def PySem.W.Fast.tw1705619719086958244 : Unit := ()
def PySem.W.Fast.tw17618300167894964017 : Unit := ()
def PySem.W.Fast.tw9802642381759276534 : Unit := ()
def PySem.W.Fast.tw6815143473208196541 : Unit := ()
def PySem.W.Fast.tw1824784148680285202 : Unit := ()
def PySem.W.Fast.tw7201581027319022511 : Unit := ()
def PySem.W.Fast.tw358823510992081345 : Unit := ()
def PySem.W.Fast.tw7430641928681787880 : Unit := ()
def PySem.W.Fast.tw9635682661587388384 : Unit := ()
def PySem.W.Fast.tw11375655773270556222 : Unit := ()
def PySem.W.Fast.tw2364650548548320827 : Unit := ()
def PySem.W.Fast.tw11354330226152847826 : Unit := ()
def PySem.W.Fast.tw3175908124718207900 : Unit := ()
def PySem.W.Fast.tw1318137944453976077 : Unit := ()
def PySem.W.Fast.tw16252442954944696481 : Unit := ()
def PySem.W.Fast.tw4158239564460978171 : Unit := ()
def PySem.W.Fast.tw14389858961697859374 : Unit := ()
def PySem.W.Fast.tw12954425617084756134 : Unit := ()
def PySem.W.Fast.tw8671395110524051885 : Unit := ()
def PySem.W.Fast.tw2725142938898385498 : Unit := ()
def PySem.W.Fast.tw9409130263414520473 : Unit := ()
def PySem.W.Fast.tw3102290544315918822 : Unit := ()
def PySem.W.Fast.tw15297539886684098025 : Unit := ()
def PySem.W.Fast.tw11861463477906180575 : Unit := ()
def PySem.W.Fast.tw13507791017427959792 : Unit := ()
def PySem.W.Fast.tw10340649684512926820 : Unit := ()
def PySem.W.Fast.tw15156757061907985297 : Unit := ()
def PySem.W.Fast.tw13892747953401540112 : Unit := ()
def PySem.W.Fast.tw2857265660367992827 : Unit := ()
def PySem.W.Fast.tw7766332816491395993 : Unit := ()
def PySem.W.Fast.tw14633365939485164827 : Unit := ()
def PySem.W.Fast.tw13129602352109737847 : Unit := ()
def PySem.W.Fast.tw3412683359344208881 : Unit := ()
def PySem.W.Fast.tw764855237676645147 : Unit := ()
def PySem.W.Fast.tw14993112590723516753 : Unit := ()
def PySem.W.Fast.tw16850269221582704611 : Unit := ()
def PySem.W.Fast.tw16717241525328049346 : Unit := ()
def PySem.W.Fast.tw8323543038423519649 : Unit := ()
def PySem.W.Fast.tw7282823873413221602 : Unit := ()
def PySem.W.Fast.tw3541467956662941838 : Unit := ()
def PySem.W.Fast.tw571101744585366263 : Unit := ()
def PySem.W.Fast.tw3523029468207203433 : Unit := ()
def PySem.W.Fast.tw1756176140554126159 : Unit := ()
def PySem.W.Fast.tw17054362468936614196 : Unit := ()
def PySem.W.Fast.tw4052294683958435484 : Unit := ()
def PySem.W.Fast.tw5265631826477915018 : Unit := ()
def PySem.W.Fast.tw14981820244190744597 : Unit := ()
def PySem.W.Fast.tw13383642932360013795 : Unit := ()
def PySem.W.Fast.tw8244681525982543642 : Unit := ()
def PySem.W.Fast.tw15721726218580942787 : Unit := ()
def PySem.W.Fast.tw7782384008130125261 : Unit := ()
def PySem.W.Fast.tw17259445210928664647 : Unit := ()
def PySem.W.Fast.tw7118852844971771033 : Unit := ()
def PySem.W.Fast.tw8262923669435080065 : Unit := ()
def PySem.W.Fast.tw1005523189216259396 : Unit := ()
def PySem.W.Fast.tw9394356144406202152 : Unit := ()
def PySem.W.Fast.tw12366006981524331655 : Unit := ()
def PySem.W.Fast.tw8967295054770749552 : Unit := ()
def PySem.W.Fast.tw13813883925040745742 : Unit := ()
def PySem.W.Fast.tw15863040315851959988 : Unit := ()
def PySem.W.Fast.tw9303034304869544426 : Unit := ()
def PySem.W.Fast.tw4086595135181013200 : Unit := ()
def PySem.W.Fast.tw1550602539352093930 : Unit := ()
def PySem.W.Fast.tw7333668462585458101 : Unit := ()
def PySem.W.Fast.tw17164131058841780569 : Unit := ()
def PySem.W.Fast.tw13996790615561703247 : Unit := ()
def PySem.W.Fast.tw7205127214847230666 : Unit := ()
def PySem.W.Fast.tw10694888393126736149 : Unit := ()
def PySem.W.Fast.tw3455844959438848199 : Unit := ()
def PySem.W.Fast.tw4557003914246823345 : Unit := ()
def PySem.W.Fast.tw16740593499116316013 : Unit := ()
def PySem.W.Fast.tw4699151250962934054 : Unit := ()
def PySem.W.Fast.tw16850041504078758392 : Unit := ()
def PySem.W.Fast.tw14086277663351616888 : Unit := ()
def PySem.W.Fast.tw1030459385410404388 : Unit := ()
def PySem.W.Fast.tw7365692483988901046 : Unit := ()
def PySem.W.Fast.tw3918821485704857976 : Unit := ()
def PySem.W.Fast.tw15454498486498245071 : Unit := ()
def PySem.W.Fast.tw8486509655334989025 : Unit := ()
def PySem.W.Fast.tw7870922985780731826 : Unit := ()
def PySem.W.Fast.tw2246393741531019425 : Unit := ()
def PySem.W.Fast.tw7520035818356983343 : Unit := ()
def PySem.W.Fast.tw641553721749468942 : Unit := ()
def PySem.W.Fast.tw5106210606734949346 : Unit := ()
def PySem.W.Fast.tw2660700928123397932 : Unit := ()
def PySem.W.Fast.tw16521857156919415933 : Unit := ()
def PySem.W.Fast.tw12549246560008817540 : Unit := ()
def PySem.W.Fast.tw17100316669912472773 : Unit := ()
def PySem.W.Fast.tw8093815135266435770 : Unit := ()
def PySem.W.Fast.tw1076113034236673342 : Unit := ()
def PySem.W.Fast.tw6890712634974637428 : Unit := ()
def PySem.W.Fast.tw5971318044001648385 : Unit := ()
def PySem.W.Fast.tw5160506204038265355 : Unit := ()
def PySem.W.Fast.tw7524011753483279190 : Unit := ()
def PySem.W.Fast.tw12662428177224890996 : Unit := ()
def PySem.W.Fast.tw1310219039509910655 : Unit := ()
def PySem.W.Fast.tw17304735777849351079 : Unit := ()
def PySem.W.Fast.tw16304407033033355135 : Unit := ()
def PySem.W.Fast.tw11547065679491467282 : Unit := ()
def PySem.W.Fast.tw17075808762366046115 : Unit := ()
def PySem.W.Fast.tw10630906098172611827 : Unit := ()
def PySem.W.Fast.tw5242272094835010283 : Unit := ()
def PySem.W.Fast.tw754724904642398445 : Unit := ()
def PySem.W.Fast.tw15105271138698547061 : Unit := ()
def PySem.W.Fast.tw8670616709764458916 : Unit := ()
def PySem.W.Fast.tw8912456529792520473 : Unit := ()
def PySem.W.Fast.tw11478557767999267348 : Unit := ()
def PySem.W.Fast.tw17104438741178342507 : Unit := ()
def PySem.W.Fast.tw6050050920199195794 : Unit := ()
def PySem.W.Fast.tw3475794059919913404 : Unit := ()
def PySem.W.Fast.tw17927289029115651474 : Unit := ()
def PySem.W.Fast.tw16170693088414402413 : Unit := ()
def PySem.W.Fast.tw10469831823295472701 : Unit := ()
def PySem.W.Fast.tw4191711659488540710 : Unit := ()
def PySem.W.Fast.tw15519733552174063827 : Unit := ()
def PySem.W.Fast.tw14432090938101957454 : Unit := ()
def PySem.W.Fast.tw3214869071743253852 : Unit := ()
def PySem.W.Fast.tw12697634810765452753 : Unit := ()
def PySem.W.Fast.tw3494316742305303937 : Unit := ()
def PySem.W.Fast.tw4467828654823067457 : Unit := ()
def PySem.W.Fast.tw16054036616230704477 : Unit := ()
def PySem.W.Fast.tw645598952219665327 : Unit := ()
def PySem.W.Fast.tw1085992839732326477 : Unit := ()
def PySem.W.Fast.tw13739187119177212866 : Unit := ()
def PySem.W.Fast.tw333540897038229444 : Unit := ()
def PySem.W.Fast.tw5425914473613860812 : Unit := ()
def PySem.W.Fast.tw13049125717901740516 : Unit := ()
def PySem.W.Fast.tw5398767898724036173 : Unit := ()
def PySem.W.Fast.tw1461841497969295222 : Unit := ()
def PySem.W.Fast.tw7894828671161070999 : Unit := ()
def PySem.W.Fast.tw5740365583628088761 : Unit := ()
def PySem.W.Fast.tw8719617010362422922 : Unit := ()
def PySem.W.Fast.tw6702204643835667587 : Unit := ()
def PySem.W.Fast.tw10369917991723041937 : Unit := ()
def PySem.W.Fast.tw6328501819233594596 : Unit := ()
def PySem.W.Fast.tw8722533805196167707 : Unit := ()
def PySem.W.Fast.tw14045645145225656540 : Unit := ()
def PySem.W.Fast.tw17097077400501959 : Unit := ()
def PySem.W.Fast.tw14765596134044883045 : Unit := ()
def PySem.W.Fast.tw3636903191771090794 : Unit := ()
def PySem.W.Fast.tw429351437211590872 : Unit := ()
def PySem.W.Fast.tw7374611477806623396 : Unit := ()
def PySem.W.Fast.tw18022212128689680533 : Unit := ()
def PySem.W.Fast.tw6249354081108414411 : Unit := ()
def PySem.W.Fast.tw2199137145351821618 : Unit := ()
def PySem.W.Fast.tw2437997799991906918 : Unit := ()
def PySem.W.Fast.tw6743532569340934066 : Unit := ()
def PySem.W.Fast.tw1481925753812607281 : Unit := ()
def PySem.W.Fast.tw6522218129252083779 : Unit := ()
def PySem.W.Fast.tw8069077228327695172 : Unit := ()
def PySem.W.Fast.tw17504160384122826962 : Unit := ()
def PySem.W.Fast.tw9531675449254905618 : Unit := ()
def PySem.W.Fast.tw17195479496772022124 : Unit := ()
def PySem.W.Fast.tw13720032454293723249 : Unit := ()
def PySem.W.Fast.tw11197326527985994584 : Unit := ()
def PySem.W.Fast.tw4396377861066119695 : Unit := ()
def PySem.W.Fast.tw6868108745191842038 : Unit := ()
def PySem.W.Fast.tw17637493042951801215 : Unit := ()
def PySem.W.Fast.tw8027346834242856211 : Unit := ()
def PySem.W.Fast.tw4224389924384573432 : Unit := ()
def PySem.W.Fast.tw5931624546795218193 : Unit := ()
def PySem.W.Fast.tw8334750909487142065 : Unit := ()
def PySem.W.Fast.tw2872256025182143908 : Unit := ()
def PySem.W.Fast.tw13967380735896215485 : Unit := ()
def PySem.W.Fast.tw4909900403818822921 : Unit := ()
def PySem.W.Fast.tw489675844536632605 : Unit := ()
def PySem.W.Fast.tw11877748964124600661 : Unit := ()
def PySem.W.Fast.tw2793338795438275576 : Unit := ()
def PySem.W.Fast.tw14237826758298317637 : Unit := ()
def PySem.W.Fast.tw12647858756220944045 : Unit := ()
def PySem.W.Fast.tw3908578168229113771 : Unit := ()
def PySem.W.Fast.tw11189470440159352215 : Unit := ()
def PySem.W.Fast.tw3916247428354215467 : Unit := ()
def PySem.W.Fast.tw17214378128769782666 : Unit := ()
def PySem.W.Fast.tw15781347822326631846 : Unit := ()
def PySem.W.Fast.tw17611254816906762207 : Unit := ()
def PySem.W.Fast.tw433854876817981512 : Unit := ()
def PySem.W.Fast.tw14683295651772841568 : Unit := ()
def PySem.W.Fast.tw9686201201937044833 : Unit := ()
def PySem.W.Fast.tw4375527413344303071 : Unit := ()
def PySem.W.Fast.tw5748911563482534441 : Unit := ()
def PySem.W.Fast.tw7829390716699674991 : Unit := ()
def PySem.W.Fast.tw7533554266950763502 : Unit := ()
def PySem.W.Fast.tw16900722205565744235 : Unit := ()
def PySem.W.Fast.tw1246216228297824915 : Unit := ()
def PySem.W.Fast.tw15380745059797122856 : Unit := ()
def PySem.W.Fast.tw9700091620296384805 : Unit := ()
def PySem.W.Fast.tw13860142325642682524 : Unit := ()
def PySem.W.Fast.tw10873412545963719524 : Unit := ()
def PySem.W.Fast.tw9451098855168311319 : Unit := ()
def PySem.W.Fast.tw16661760560168957710 : Unit := ()
def PySem.W.Fast.tw14490083080308280618 : Unit := ()
def PySem.W.Fast.tw7075920849604808427 : Unit := ()
def PySem.W.Fast.tw15226089222955158335 : Unit := ()
def PySem.W.Fast.tw4182862543494363512 : Unit := ()
def PySem.W.Fast.tw9472089880390391661 : Unit := ()
def PySem.W.Fast.tw12823183232597084611 : Unit := ()
def PySem.W.Fast.tw8400268912325920355 : Unit := ()
def PySem.W.Fast.tw13452508670839113645 : Unit := ()
def PySem.W.Fast.tw9009989524453672236 : Unit := ()
def PySem.W.Fast.tw5619629072780264704 : Unit := ()
def PySem.W.Fast.tw15301225529903842474 : Unit := ()
def PySem.W.Fast.tw1349789392465634610 : Unit := ()
def PySem.W.Fast.tw440136150390581863 : Unit := ()
def PySem.W.Fast.tw5297489083613674402 : Unit := ()
def PySem.W.Fast.tw2714391288082317907 : Unit := ()
def PySem.W.Fast.tw3037813075617634361 : Unit := ()
def PySem.W.Fast.tw14741325816157046186 : Unit := ()
def PySem.W.Fast.tw13285574142482380298 : Unit := ()
def PySem.W.Fast.tw15375674838759506160 : Unit := ()
def PySem.W.Fast.tw13727821984417049928 : Unit := ()
def PySem.W.Fast.tw14010422558415955307 : Unit := ()
def PySem.W.Fast.tw10754039516893278319 : Unit := ()
def PySem.W.Fast.tw4283715237475775854 : Unit := ()
def PySem.W.Fast.tw13171535712770867486 : Unit := ()
def PySem.W.Fast.tw2813395905925057645 : Unit := ()
def PySem.W.Fast.tw7173875944457460738 : Unit := ()
def PySem.W.Fast.tw16729818366093783372 : Unit := ()
def PySem.W.Fast.tw11537331671874613970 : Unit := ()
def PySem.W.Fast.tw17436699973726668472 : Unit := ()
def PySem.W.Fast.tw8903388570572842695 : Unit := ()
def PySem.W.Fast.tw17181063471747482109 : Unit := ()
def PySem.W.Fast.tw6405957444363645957 : Unit := ()
def PySem.W.Fast.tw14169344518399359801 : Unit := ()
def PySem.W.Fast.tw3274832381118539132 : Unit := ()
def PySem.W.Fast.tw14315121407527391417 : Unit := ()
def PySem.W.Fast.tw4951131190983295890 : Unit := ()
def PySem.W.Fast.tw4892886135292652252 : Unit := ()
def PySem.W.Fast.tw13163456060538484282 : Unit := ()
def PySem.W.Fast.tw8338322134113005073 : Unit := ()
def PySem.W.Fast.tw13827809559298519235 : Unit := ()
def PySem.W.Fast.tw17540063467715268996 : Unit := ()
def PySem.W.Fast.tw17716513797414620683 : Unit := ()
def PySem.W.Fast.tw3844080724281343126 : Unit := ()
def PySem.W.Fast.tw15849325238274047631 : Unit := ()
def PySem.W.Fast.tw13732375037450700354 : Unit := ()
def PySem.W.Fast.tw10617968516484765727 : Unit := ()
def PySem.W.Fast.tw17902678998193850634 : Unit := ()
def PySem.W.Fast.tw5317231511847418546 : Unit := ()
def PySem.W.Fast.tw10156397511755044983 : Unit := ()
def PySem.W.Fast.tw546418362544048354 : Unit := ()
def PySem.W.Fast.tw10751701984731713373 : Unit := ()
def PySem.W.Fast.tw9384475236524101655 : Unit := ()
def PySem.W.Fast.tw4206394375334229795 : Unit := ()
def PySem.W.Fast.tw8645406273510538055 : Unit := ()
def PySem.W.Fast.tw13301610037261434664 : Unit := ()
def PySem.W.Fast.tw9338948947905860804 : Unit := ()
def PySem.W.Fast.tw99503408132486349 : Unit := ()
def PySem.W.Fast.tw3654266624379071004 : Unit := ()
def PySem.W.Fast.tw13917455303179937081 : Unit := ()
def PySem.W.Fast.tw15953304274065168619 : Unit := ()
def PySem.W.Fast.tw11830908880881190666 : Unit := ()
def PySem.W.Fast.tw12948815921832394163 : Unit := ()
def PySem.W.Fast.tw17513454478337079853 : Unit := ()
def PySem.W.Fast.tw11708257154800601866 : Unit := ()
def PySem.W.Fast.tw2408204975418517068 : Unit := ()
def PySem.W.Fast.tw2495519239591221475 : Unit := ()
def PySem.W.Fast.tw12393430394212781850 : Unit := ()
def PySem.W.Fast.tw9835153235446755714 : Unit := ()
def PySem.W.Fast.tw10098828743948142037 : Unit := ()
def PySem.W.Fast.tw2974205972839573956 : Unit := ()
def PySem.W.Fast.tw10985217706014006010 : Unit := ()
def PySem.W.Fast.tw6315178799646856200 : Unit := ()
def PySem.W.Fast.tw15965083167455686455 : Unit := ()
def PySem.W.Fast.tw539248441251618443 : Unit := ()
def PySem.W.Fast.tw11561423327940502892 : Unit := ()
def PySem.W.Fast.tw16455564958133664430 : Unit := ()
def PySem.W.Fast.tw268528783165070203 : Unit := ()
def PySem.W.Fast.tw10476291618381919773 : Unit := ()
def PySem.W.Fast.tw14606628977584398976 : Unit := ()
def PySem.W.Fast.tw14186978295920054625 : Unit := ()
def PySem.W.Fast.tw4778876311236483107 : Unit := ()
def PySem.W.Fast.tw10268525305850142067 : Unit := ()
def PySem.W.Fast.tw7102765020860735165 : Unit := ()
def PySem.W.Fast.tw4921913244133427483 : Unit := ()
def PySem.W.Fast.tw16782811593933102027 : Unit := ()
def PySem.W.Fast.tw13171918489356475763 : Unit := ()
def PySem.W.Fast.tw6149733321971262427 : Unit := ()
def PySem.W.Fast.tw12010965230785155935 : Unit := ()
def PySem.W.Fast.tw2308494555249361363 : Unit := ()
def PySem.W.Fast.tw8715396426710740574 : Unit := ()
def PySem.W.Fast.tw7643276147742942569 : Unit := ()
def PySem.W.Fast.tw8402883115053924836 : Unit := ()
def PySem.W.Fast.tw2826443334565528293 : Unit := ()
def PySem.W.Fast.tw18011019587787252042 : Unit := ()
def PySem.W.Fast.tw13171743048188298048 : Unit := ()
def PySem.W.Fast.tw15159319649157182221 : Unit := ()
def PySem.W.Fast.tw507787150347269817 : Unit := ()
def PySem.W.Fast.tw4630073404097419672 : Unit := ()
def PySem.W.Fast.tw7557513881014631846 : Unit := ()
def PySem.W.Fast.tw2503299874715588462 : Unit := ()
def PySem.W.Fast.tw544111192121934041 : Unit := ()
def PySem.W.Fast.tw210737217119850481 : Unit := ()
def PySem.W.Fast.tw1641064443605566097 : Unit := ()
def PySem.W.Fast.tw8591336440163958477 : Unit := ()
def PySem.W.Fast.tw14924303039724136893 : Unit := ()
def PySem.W.Fast.tw4760429552396865130 : Unit := ()
def PySem.W.Fast.tw7341830584827917265 : Unit := ()
def PySem.W.Fast.tw10334405075906491427 : Unit := ()
def PySem.W.Fast.tw607689272004664383 : Unit := ()
def PySem.W.Fast.tw15729087767950352423 : Unit := ()
def PySem.W.Fast.tw17136028107537252719 : Unit := ()
def PySem.W.Fast.tw8443404744081115425 : Unit := ()
def PySem.W.Fast.tw14597664347289927920 : Unit := ()
def PySem.W.Fast.tw996089247777695743 : Unit := ()
def PySem.W.Fast.tw16207751601731658528 : Unit := ()
def PySem.W.Fast.tw1311547688679146817 : Unit := ()
def PySem.W.Fast.tw1629305550305168603 : Unit := ()
def PySem.W.Fast.tw10668372348178042200 : Unit := ()
def PySem.W.Fast.tw16636293336378088939 : Unit := ()
def PySem.W.Fast.tw9968887722300675690 : Unit := ()
def PySem.W.Fast.tw6973520272823274128 : Unit := ()
def PySem.W.Fast.tw1321975178321516076 : Unit := ()
def PySem.W.Fast.tw8990492143126459048 : Unit := ()
def PySem.W.Fast.tw13983401375210883791 : Unit := ()
def PySem.W.Fast.tw6568565939161502638 : Unit := ()
def PySem.W.Fast.tw12732016094679955643 : Unit := ()
def PySem.W.Fast.tw3857492315933009097 : Unit := ()
def PySem.W.Fast.tw8820069951354056178 : Unit := ()
def PySem.W.Fast.tw13194308267348663206 : Unit := ()
def PySem.W.Fast.tw9198152831588678724 : Unit := ()
def PySem.W.Fast.tw10575308012618668480 : Unit := ()
def PySem.W.Fast.tw1012482864327592400 : Unit := ()
def PySem.W.Fast.tw7653954723982246720 : Unit := ()
def PySem.W.Fast.tw15455275521638555753 : Unit := ()
def PySem.W.Fast.tw1391294197467387110 : Unit := ()
def PySem.W.Fast.tw823534426661356601 : Unit := ()
def PySem.W.Fast.tw18002079519096692019 : Unit := ()
def PySem.W.Fast.tw1946896555571442868 : Unit := ()
def PySem.W.Fast.tw13068346904529491143 : Unit := ()
def PySem.W.Fast.tw783691450471040552 : Unit := ()
def PySem.W.Fast.tw10730612224076662840 : Unit := ()
def PySem.W.Fast.tw14095935364846670823 : Unit := ()
def PySem.W.Fast.tw15293697745140776598 : Unit := ()
def PySem.W.Fast.tw3371570562100592594 : Unit := ()
def PySem.W.Fast.tw12390929662902178851 : Unit := ()
def PySem.W.Fast.tw2494004678171129605 : Unit := ()
def PySem.W.Fast.tw16241695164346673580 : Unit := ()
def PySem.W.Fast.tw1055939169787175855 : Unit := ()
def PySem.W.Fast.tw15730880906900352857 : Unit := ()
def PySem.W.Fast.tw11109051338530713279 : Unit := ()
def PySem.W.Fast.tw11486227837224861514 : Unit := ()
def PySem.W.Fast.tw6987338877667591893 : Unit := ()
def PySem.W.Fast.tw12456965491240431010 : Unit := ()
def PySem.W.Fast.tw16385708789202973387 : Unit := ()
def PySem.W.Fast.tw9542985040758161447 : Unit := ()
def PySem.W.Fast.tw3011107978990082256 : Unit := ()
def PySem.W.Fast.tw1557201087533562503 : Unit := ()
def PySem.W.Fast.tw1090884815337958302 : Unit := ()
def PySem.W.Fast.tw2441885205968031273 : Unit := ()
def PySem.W.Fast.tw2912716645281502839 : Unit := ()
def PySem.W.Fast.tw14207444880064994841 : Unit := ()
def PySem.W.Fast.tw5199039680137725862 : Unit := ()
def PySem.W.Fast.tw8142528522759290405 : Unit := ()
def PySem.W.Fast.tw12594705283261895893 : Unit := ()
def PySem.W.Fast.tw16127326389961944095 : Unit := ()
def PySem.W.Fast.tw17403972432756579766 : Unit := ()
def PySem.W.Fast.tw14082712257354009690 : Unit := ()
def PySem.W.Fast.tw1076180937038110543 : Unit := ()
def PySem.W.Fast.tw10524807758877893120 : Unit := ()
def PySem.W.Fast.tw6505737696884969915 : Unit := ()
def PySem.W.Fast.tw2402956413153975340 : Unit := ()
def PySem.W.Fast.tw2974217806717369232 : Unit := ()
def PySem.W.Fast.tw14914684252038606369 : Unit := ()
def PySem.W.Fast.tw13942880210713164669 : Unit := ()
def PySem.W.Fast.tw10028081233014821289 : Unit := ()
def PySem.W.Fast.tw1894124296562805872 : Unit := ()
def PySem.W.Fast.tw12452174409459726707 : Unit := ()
def PySem.W.Fast.tw9464951768641739625 : Unit := ()
def PySem.W.Fast.tw11084467312365501692 : Unit := ()
def PySem.W.Fast.tw7946809464877702820 : Unit := ()
def PySem.W.Fast.tw1118701679979065931 : Unit := ()
def PySem.W.Fast.tw12501516618522522189 : Unit := ()
def PySem.W.Fast.tw9646367823916871465 : Unit := ()
def PySem.W.Fast.tw4036791127546584068 : Unit := ()
def PySem.W.Fast.tw16673910452793896010 : Unit := ()
def PySem.W.Fast.tw7947347017346599930 : Unit := ()
def PySem.W.Fast.tw10465055358185464268 : Unit := ()
def PySem.W.Fast.tw5771130127227297501 : Unit := ()
def PySem.W.Fast.tw6828510029683986877 : Unit := ()
def PySem.W.Fast.tw6816668029306766326 : Unit := ()
def PySem.W.Fast.tw8174825547936974640 : Unit := ()
def PySem.W.Fast.tw18416826216498325193 : Unit := ()
def PySem.W.Fast.tw15727232517876023897 : Unit := ()
def PySem.W.Fast.tw6919162176756714707 : Unit := ()
def PySem.W.Fast.tw8832666541116067475 : Unit := ()
def PySem.W.Fast.tw13413444956649650554 : Unit := ()
def PySem.W.Fast.tw6673774841918750315 : Unit := ()
def PySem.W.Fast.tw6822134127641698666 : Unit := ()
def PySem.W.Fast.tw17932078041166918247 : Unit := ()
def PySem.W.Fast.tw17469696399323660518 : Unit := ()
def PySem.W.Fast.tw2106216080203715343 : Unit := ()
def PySem.W.Fast.tw15181759015230398481 : Unit := ()
def PySem.W.Fast.tw5812456345675182470 : Unit := ()
def PySem.W.Fast.tw5446547425340303119 : Unit := ()
def PySem.W.Fast.tw6715787538209894423 : Unit := ()
def PySem.W.Fast.tw7356436334479219544 : Unit := ()
def PySem.W.Fast.tw14404958021380604620 : Unit := ()
def PySem.W.Fast.tw3933541008483228988 : Unit := ()
def PySem.W.Fast.tw15325264002468350596 : Unit := ()
def PySem.W.Fast.tw2746066989516447833 : Unit := ()
def PySem.W.Fast.tw6575108241296132706 : Unit := ()
def PySem.W.Fast.tw613476595931149820 : Unit := ()
def PySem.W.Fast.tw5472257500215921464 : Unit := ()
def PySem.W.Fast.tw6912452902395627536 : Unit := ()
def PySem.W.Fast.tw8386284623936977681 : Unit := ()
def PySem.W.Fast.tw12010279190270312226 : Unit := ()
def PySem.W.Fast.tw189226195383976627 : Unit := ()
def PySem.W.Fast.tw11033801731772004230 : Unit := ()
def PySem.W.Fast.tw16762496595453101049 : Unit := ()
def PySem.W.Fast.tw5583317190686468453 : Unit := ()
def PySem.W.Fast.tw5108949430841721126 : Unit := ()
def PySem.W.Fast.tw18200919191060969620 : Unit := ()
def PySem.W.Fast.tw362784183905400457 : Unit := ()
def PySem.W.Fast.tw12055603404266438463 : Unit := ()
def PySem.W.Fast.tw12940460853744354818 : Unit := ()
def PySem.W.Fast.tw861518394585271242 : Unit := ()
def PySem.W.Fast.tw6672521983528683492 : Unit := ()
def PySem.W.Fast.tw10049639396595688142 : Unit := ()
def PySem.W.Fast.tw1030547333225649795 : Unit := ()
def PySem.W.Fast.tw10572924777565263756 : Unit := ()
def PySem.W.Fast.tw11857540012945036480 : Unit := ()
def PySem.W.Fast.tw6133628638537673079 : Unit := ()
def PySem.W.Fast.tw376095282940006157 : Unit := ()
def PySem.W.Fast.tw12377457415350591416 : Unit := ()
def PySem.W.Fast.tw6233928387559134537 : Unit := ()
def PySem.W.Fast.tw1822908111027264506 : Unit := ()
def PySem.W.Fast.tw16683162251620709540 : Unit := ()
def PySem.W.Fast.tw3693368012040282473 : Unit := ()
def PySem.W.Fast.tw4232644454804312101 : Unit := ()
def PySem.W.Fast.tw1415394360948305325 : Unit := ()
def PySem.W.Fast.tw11654552578438139079 : Unit := ()
def PySem.W.Fast.tw12033712703271556036 : Unit := ()
def PySem.W.Fast.tw6131257938597233187 : Unit := ()
def PySem.W.Fast.tw13661540076381695458 : Unit := ()
def PySem.W.Fast.tw13360179300359930769 : Unit := ()
def PySem.W.Fast.tw18220516200292178542 : Unit := ()
def PySem.W.Fast.tw12572718210063358346 : Unit := ()
def PySem.W.Fast.tw14439562455772665393 : Unit := ()
def PySem.W.Fast.tw5471190951763849864 : Unit := ()
def PySem.W.Fast.tw18092723395530032517 : Unit := ()
def PySem.W.Fast.tw5050610407149156552 : Unit := ()
def PySem.W.Fast.tw14664106118425024301 : Unit := ()
def PySem.W.Fast.tw14141669711431753037 : Unit := ()
def PySem.W.Fast.tw6918040320725693969 : Unit := ()
def PySem.W.Fast.tw3514572128499210222 : Unit := ()
def PySem.W.Fast.tw10218646211368734467 : Unit := ()
def PySem.W.Fast.tw12891383619631534896 : Unit := ()
def PySem.W.Fast.tw8747748388360597676 : Unit := ()
def PySem.W.Fast.tw12063017599367072160 : Unit := ()
def PySem.W.Fast.tw14555981728564659792 : Unit := ()
def PySem.W.Fast.tw16905300964167225605 : Unit := ()
def PySem.W.Fast.tw12903950603607466219 : Unit := ()
def PySem.W.Fast.tw3556075507093599523 : Unit := ()
def PySem.W.Fast.tw2220623958884466316 : Unit := ()
def PySem.W.Fast.tw8296560715593485675 : Unit := ()
def PySem.W.Fast.tw7651229232082518823 : Unit := ()
def PySem.W.Fast.tw17535106118932078313 : Unit := ()
def PySem.W.Fast.tw880068115701558441 : Unit := ()
def PySem.W.Fast.tw526747630951284457 : Unit := ()
def PySem.W.Fast.tw7132220705265202194 : Unit := ()
def PySem.W.Fast.tw9549502559943939965 : Unit := ()
def PySem.W.Fast.tw18253037288562885687 : Unit := ()
def PySem.W.Fast.tw12780737587111020504 : Unit := ()
def PySem.W.Fast.tw14465811388677972017 : Unit := ()
def PySem.W.Fast.tw11769561945609904711 : Unit := ()
def PySem.W.Fast.tw12112661765967986682 : Unit := ()
def PySem.W.Fast.tw7124173672454538899 : Unit := ()
def PySem.W.Fast.tw14304416903833480575 : Unit := ()
def PySem.W.Fast.tw17016140655221934642 : Unit := ()
def PySem.W.Fast.tw5360477255967248302 : Unit := ()
def PySem.W.Fast.tw18156738726053781746 : Unit := ()
def PySem.W.Fast.tw1548788823791778375 : Unit := ()
def PySem.W.Fast.tw18181536635959804160 : Unit := ()
def PySem.W.Fast.tw5911914312773512668 : Unit := ()
def PySem.W.Fast.tw2794325951313826022 : Unit := ()
def PySem.W.Fast.tw3118412449419202787 : Unit := ()
def PySem.W.Fast.tw4503778474313632836 : Unit := ()
def PySem.W.Fast.tw1509959386432701109 : Unit := ()
def PySem.W.Fast.tw8938485459407009543 : Unit := ()
def PySem.W.Fast.tw4101060547194706916 : Unit := ()
def PySem.W.Fast.tw3705894113821847878 : Unit := ()
def PySem.W.Fast.tw16741962365085483583 : Unit := ()
def PySem.W.Fast.tw5686486650637989787 : Unit := ()
def PySem.W.Fast.tw18106465965936933849 : Unit := ()
def PySem.W.Fast.tw16300018048945208437 : Unit := ()
def PySem.W.Fast.tw4628490317873123982 : Unit := ()
def PySem.W.Fast.tw9914975994584714220 : Unit := ()
def PySem.W.Fast.tw4434634262445076471 : Unit := ()
def PySem.W.Fast.tw11033602600603193794 : Unit := ()
def PySem.W.Fast.tw16320817153404594746 : Unit := ()
def PySem.W.Fast.tw7250964405535249609 : Unit := ()
def PySem.W.Fast.tw16121050473081972382 : Unit := ()
def PySem.W.Fast.tw9216139678688443589 : Unit := ()
def PySem.W.Fast.tw7523369366967100232 : Unit := ()
def PySem.W.Fast.tw16074477153488142091 : Unit := ()
def PySem.W.Fast.tw3096602103855827219 : Unit := ()
def PySem.W.Fast.tw4413423148266011163 : Unit := ()
def PySem.W.Fast.tw208338248864694354 : Unit := ()
def PySem.W.Fast.tw7294551373668912671 : Unit := ()
def PySem.W.Fast.tw6866687819404740330 : Unit := ()
def PySem.W.Fast.tw7315502702270373092 : Unit := ()
def PySem.W.Fast.tw6626032097230638595 : Unit := ()
def PySem.W.Fast.tw17302819990812836750 : Unit := ()
def PySem.W.Fast.tw811598472123949394 : Unit := ()
def PySem.W.Fast.tw3874993766073886019 : Unit := ()
def PySem.W.Fast.tw14524849477786191334 : Unit := ()
def PySem.W.Fast.tw13999582847530488223 : Unit := ()
def PySem.W.Fast.tw7589825677809341058 : Unit := ()
def PySem.W.Fast.tw9086485939068530640 : Unit := ()
def PySem.W.Fast.tw11104393120120922917 : Unit := ()
def PySem.W.Fast.tw5189127863629274948 : Unit := ()
def PySem.W.Fast.tw17591339161755627052 : Unit := ()
def PySem.W.Fast.tw278328523321055516 : Unit := ()
def PySem.W.Fast.tw6098949550058895798 : Unit := ()
def PySem.W.Fast.tw8419558434915349082 : Unit := ()
def PySem.W.Fast.tw562919349143159951 : Unit := ()
def PySem.W.Fast.tw10072211106318731562 : Unit := ()
def PySem.W.Fast.tw5604765653680615500 : Unit := ()
def PySem.W.Fast.tw17812616639294677717 : Unit := ()
def PySem.W.Fast.tw4014978094691804803 : Unit := ()
def PySem.W.Fast.tw15351538832968337357 : Unit := ()
def PySem.W.Fast.tw696543039053184851 : Unit := ()
def PySem.W.Fast.tw15188302125715067236 : Unit := ()
def PySem.W.Fast.tw13091010550840575236 : Unit := ()
def PySem.W.Fast.tw16954843389613132775 : Unit := ()
def PySem.W.Fast.tw11505336470104383298 : Unit := ()
def PySem.W.Fast.tw691075178009442492 : Unit := ()
def PySem.W.Fast.tw9754141545480351178 : Unit := ()
def PySem.W.Fast.tw2004547270761016337 : Unit := ()
def PySem.W.Fast.tw16901330556646016828 : Unit := ()
def PySem.W.Fast.tw11382798868635294269 : Unit := ()
def PySem.W.Fast.tw10303204849231391713 : Unit := ()
def PySem.W.Fast.tw13801052287260059662 : Unit := ()
def PySem.W.Fast.tw10304769780511470840 : Unit := ()
def PySem.W.Fast.tw5848598803091427926 : Unit := ()
def PySem.W.Fast.tw17362556001038881714 : Unit := ()
def PySem.W.Fast.tw5090604810423729772 : Unit := ()
def PySem.W.Fast.tw4834152032627976273 : Unit := ()
def PySem.W.Fast.tw10513875509660443665 : Unit := ()
def PySem.W.Fast.tw17627320448715429560 : Unit := ()
def PySem.W.Fast.tw5992702147123839305 : Unit := ()
def PySem.W.Fast.tw9728374689269969088 : Unit := ()
def PySem.W.Fast.tw1383154121548665304 : Unit := ()
def PySem.W.Fast.tw3031156836300268647 : Unit := ()
def PySem.W.Fast.tw10078609287920178610 : Unit := ()
def PySem.W.Fast.tw11888151272796642519 : Unit := ()
def PySem.W.Fast.tw6677688392736965579 : Unit := ()
def PySem.W.Fast.tw10549306914415875681 : Unit := ()
def PySem.W.Fast.tw10190553096902458062 : Unit := ()
def PySem.W.Fast.tw4014147638105886564 : Unit := ()
def PySem.W.Fast.tw9627859407371702119 : Unit := ()
def PySem.W.Fast.tw808508907558688078 : Unit := ()
def PySem.W.Fast.tw17743069335628387919 : Unit := ()
def PySem.W.Fast.tw3755332582539575482 : Unit := ()
def PySem.W.Fast.tw13395924510874111309 : Unit := ()
def PySem.W.Fast.tw4419149351794514698 : Unit := ()
def PySem.W.Fast.tw3280487084773037950 : Unit := ()
def PySem.W.Fast.tw4608124522937793268 : Unit := ()
def PySem.W.Fast.tw10405321510280729325 : Unit := ()
def PySem.W.Fast.tw8901719677870569519 : Unit := ()
def PySem.W.Fast.tw10822904234960434790 : Unit := ()
def PySem.W.Fast.tw12500419279565199786 : Unit := ()
def PySem.W.Fast.tw1979277514952964065 : Unit := ()
def PySem.W.Fast.tw8799528386086643860 : Unit := ()
def PySem.W.Fast.tw5814520629265498362 : Unit := ()
def PySem.W.Fast.tw16959430550700207948 : Unit := ()
def PySem.W.Fast.tw6655453031209576795 : Unit := ()
def PySem.W.Fast.tw1938703628676523225 : Unit := ()
def PySem.W.Fast.tw13579584922774621554 : Unit := ()
def PySem.W.Fast.tw17908845550133443556 : Unit := ()
def PySem.W.Fast.tw10130313487995561378 : Unit := ()
def PySem.W.Fast.tw16397033290838413828 : Unit := ()
def PySem.W.Fast.tw16961236126530314649 : Unit := ()
def PySem.W.Fast.tw6602065424993083790 : Unit := ()
def PySem.W.Fast.tw17679868046327365847 : Unit := ()
def PySem.W.Fast.tw6474605443025858112 : Unit := ()
def PySem.W.Fast.tw11793272234411143152 : Unit := ()
def PySem.W.Fast.tw10352724887421380888 : Unit := ()
def PySem.W.Fast.tw7913573752031174545 : Unit := ()
def PySem.W.Fast.tw3677798486779053799 : Unit := ()
def PySem.W.Fast.tw9705818385602330511 : Unit := ()
def PySem.W.Fast.tw18034489803974614924 : Unit := ()
def PySem.W.Fast.tw1275238030283781600 : Unit := ()
def PySem.W.Fast.tw562238526193338666 : Unit := ()
def PySem.W.Fast.tw13001877213295223560 : Unit := ()
def PySem.W.Fast.tw11229774894748926518 : Unit := ()
def PySem.W.Fast.tw3135805002114275471 : Unit := ()
def PySem.W.Fast.tw624239003531108915 : Unit := ()
def PySem.W.Fast.tw6348497703532552410 : Unit := ()
def PySem.W.Fast.tw14615048200976824145 : Unit := ()
def PySem.W.Fast.tw5700631028551268784 : Unit := ()
def PySem.W.Fast.tw4399061642363059796 : Unit := ()
def PySem.W.Fast.tw7592885838263210705 : Unit := ()
def PySem.W.Fast.tw15539278512859746732 : Unit := ()
def PySem.W.Fast.tw5791316540630159581 : Unit := ()
def PySem.W.Fast.tw18111803000818719094 : Unit := ()
def PySem.W.Fast.tw16415944467525207271 : Unit := ()
def PySem.W.Fast.tw962202798822751598 : Unit := ()
def PySem.W.Fast.tw16672183286804468287 : Unit := ()
def PySem.W.Fast.tw10812724262194739595 : Unit := ()
def PySem.W.Fast.tw6944563165962926895 : Unit := ()
def PySem.W.Fast.tw1023217638266661215 : Unit := ()
def PySem.W.Fast.tw15915514149523583622 : Unit := ()
def PySem.W.Fast.tw10198692487566591640 : Unit := ()
def PySem.W.Fast.tw15637799952799093901 : Unit := ()
def PySem.W.Fast.tw342605335827154570 : Unit := ()
def PySem.W.Fast.tw6101522871651662954 : Unit := ()
def PySem.W.Fast.tw12655266707743963892 : Unit := ()
def PySem.W.Fast.tw13728793263874918124 : Unit := ()
def PySem.W.Fast.tw1987428620560880773 : Unit := ()
def PySem.W.Fast.tw3360800258575685307 : Unit := ()
def PySem.W.Fast.tw16631137448366800722 : Unit := ()
def PySem.W.Fast.tw8941509938931966445 : Unit := ()
def PySem.W.Fast.tw6574105305605443793 : Unit := ()
def PySem.W.Fast.tw3220335939370601320 : Unit := ()
def PySem.W.Fast.tw5006802236799605862 : Unit := ()
def PySem.W.Fast.tw10108956071008125465 : Unit := ()
def PySem.W.Fast.tw17195133369482682995 : Unit := ()
def PySem.W.Fast.tw1247153521176382024 : Unit := ()
def PySem.W.Fast.tw3375118238717256821 : Unit := ()
def PySem.W.Fast.tw2315896208042887894 : Unit := ()
def PySem.W.Fast.tw1135770606646705891 : Unit := ()
def PySem.W.Fast.tw4808871312465471456 : Unit := ()
def PySem.W.Fast.tw14702366709931944138 : Unit := ()
def PySem.W.Fast.tw2578248699171024062 : Unit := ()
def PySem.W.Fast.tw11620621711986791671 : Unit := ()
def PySem.W.Fast.tw5330002997299708687 : Unit := ()
def PySem.W.Fast.tw13561131347547795751 : Unit := ()
def PySem.W.Fast.tw16485942048275269609 : Unit := ()
def PySem.W.Fast.tw10279461425941900805 : Unit := ()
def PySem.W.Fast.tw3601919910979849616 : Unit := ()
def PySem.W.Fast.tw15584533434310230494 : Unit := ()
def PySem.W.Fast.tw14013178700222865460 : Unit := ()
def PySem.W.Fast.tw10666614341291496636 : Unit := ()
def PySem.W.Fast.tw17489807670079863753 : Unit := ()
def PySem.W.Fast.tw4350064826467738110 : Unit := ()
def PySem.W.Fast.tw5280788416236638561 : Unit := ()
def PySem.W.Fast.tw4311643303175662129 : Unit := ()
def PySem.W.Fast.tw9323057112345811047 : Unit := ()
def PySem.W.Fast.tw2379557259683009208 : Unit := ()
def PySem.W.Fast.tw5375670765137766432 : Unit := ()
def PySem.W.Fast.tw8741716914441481113 : Unit := ()
def PySem.W.Fast.tw12269628052002440058 : Unit := ()
def PySem.W.Fast.tw1917001915195363021 : Unit := ()
def PySem.W.Fast.tw7352485937850882035 : Unit := ()
def PySem.W.Fast.tw12328407014393364992 : Unit := ()
def PySem.W.Fast.tw18403147471951215100 : Unit := ()
def PySem.W.Fast.tw13596713543769064443 : Unit := ()
def PySem.W.Fast.tw17942677698386021365 : Unit := ()
def PySem.W.Fast.tw5503816371243242497 : Unit := ()
def PySem.W.Fast.tw15566739385136075066 : Unit := ()
def PySem.W.Fast.tw6349142526545999833 : Unit := ()
def PySem.W.Fast.tw7983291580037656490 : Unit := ()
def PySem.W.Fast.tw6705623581760470412 : Unit := ()
def PySem.W.Fast.tw5146209546350670549 : Unit := ()
def PySem.W.Fast.tw5479852212775854010 : Unit := ()
def PySem.W.Fast.tw9054452077136501035 : Unit := ()
def PySem.W.Fast.tw12395430144542415456 : Unit := ()
def PySem.W.Fast.tw6666069157078215192 : Unit := ()
def PySem.W.Fast.tw5751680071514920340 : Unit := ()
def PySem.W.Fast.tw5762475790701543897 : Unit := ()
def PySem.W.Fast.tw9012621737260701750 : Unit := ()
def PySem.W.Fast.tw291741137760476306 : Unit := ()
def PySem.W.Fast.tw15069945679787532172 : Unit := ()
def PySem.W.Fast.tw727609081569650504 : Unit := ()
def PySem.W.Fast.tw6577170544346218660 : Unit := ()
def PySem.W.Fast.tw14457997022194244756 : Unit := ()
def PySem.W.Fast.tw14116478496761824816 : Unit := ()
def PySem.W.Fast.tw4579698516508218135 : Unit := ()
def PySem.W.Fast.tw2463999391513365699 : Unit := ()
def PySem.W.Fast.tw12302272798682040354 : Unit := ()
def PySem.W.Fast.tw2042247559652047457 : Unit := ()
def PySem.W.Fast.tw6670105555845694608 : Unit := ()
def PySem.W.Fast.tw9565396740847256700 : Unit := ()
def PySem.W.Fast.tw761782877311436437 : Unit := ()
def PySem.W.Fast.tw67188664357779490 : Unit := ()
def PySem.W.Fast.tw3694902727053354617 : Unit := ()
def PySem.W.Fast.tw14332535218376195144 : Unit := ()
def PySem.W.Fast.tw17730027607782667254 : Unit := ()
def PySem.W.Fast.tw12475220837236501965 : Unit := ()
def PySem.W.Fast.tw2160613204978083404 : Unit := ()
def PySem.W.Fast.tw2111138192583761360 : Unit := ()
def PySem.W.Fast.tw4441591450360201793 : Unit := ()
def PySem.W.Fast.tw10107399904329727163 : Unit := ()
def PySem.W.Fast.tw17482329742153936628 : Unit := ()
def PySem.W.Fast.tw17103776996894246822 : Unit := ()
def PySem.W.Fast.tw18275297276852350126 : Unit := ()
def PySem.W.Fast.tw16634490495414879302 : Unit := ()
def PySem.W.Fast.tw1588109463667798950 : Unit := ()
def PySem.W.Fast.tw4757898559860255333 : Unit := ()
def PySem.W.Fast.tw13596429732812968295 : Unit := ()
def PySem.W.Fast.tw3480977582734417897 : Unit := ()
def PySem.W.Fast.tw15495064295452596670 : Unit := ()
def PySem.W.Fast.tw10237292184765426900 : Unit := ()
def PySem.W.Fast.tw13762519022957960751 : Unit := ()
def PySem.W.Fast.tw15721432611719791373 : Unit := ()
def PySem.W.Fast.tw13708959875589202997 : Unit := ()
def PySem.W.Fast.tw14092312068637895828 : Unit := ()
def PySem.W.Fast.tw1805794956763307711 : Unit := ()
def PySem.W.Fast.tw17609192134804184711 : Unit := ()
def PySem.W.Fast.tw17054468646460500951 : Unit := ()
def PySem.W.Fast.tw9298170504279186784 : Unit := ()
def PySem.W.Fast.tw10559043408497821197 : Unit := ()
def PySem.W.Fast.tw15458534139187738677 : Unit := ()
def PySem.W.Fast.tw11269666620762251751 : Unit := ()
def PySem.W.Fast.tw5063357376543478651 : Unit := ()
def PySem.W.Fast.tw8546629759501445281 : Unit := ()
def PySem.W.Fast.tw13371630621686563046 : Unit := ()
def PySem.W.Fast.tw12122438534122874545 : Unit := ()
def PySem.W.Fast.tw10121413570993171018 : Unit := ()
def PySem.W.Fast.tw11924923474022197450 : Unit := ()
def PySem.W.Fast.tw3789510912675320774 : Unit := ()
def PySem.W.Fast.tw5851806821829751217 : Unit := ()
def PySem.W.Fast.tw6905073162729188383 : Unit := ()
def PySem.W.Fast.tw4327042993040590507 : Unit := ()
def PySem.W.Fast.tw14124869511281001669 : Unit := ()
def PySem.W.Fast.tw5344647824343728281 : Unit := ()
def PySem.W.Fast.tw13461096094358669358 : Unit := ()
def PySem.W.Fast.tw338361786542709348 : Unit := ()
def PySem.W.Fast.tw965050307672168580 : Unit := ()
def PySem.W.Fast.tw3411338225098033842 : Unit := ()
def PySem.W.Fast.tw7353158930984357052 : Unit := ()
def PySem.W.Fast.tw8979905098740277784 : Unit := ()
def PySem.W.Fast.tw1488296022795769267 : Unit := ()
def PySem.W.Fast.tw4114804808855096348 : Unit := ()
def PySem.W.Fast.tw15001221914678987621 : Unit := ()
def PySem.W.Fast.tw12217986048464857581 : Unit := ()
def PySem.W.Fast.tw11941783089664008281 : Unit := ()
def PySem.W.Fast.tw780590437819422876 : Unit := ()
def PySem.W.Fast.tw3562118318011475333 : Unit := ()
def PySem.W.Fast.tw1985590790115805637 : Unit := ()
def PySem.W.Fast.tw10236011515737012841 : Unit := ()
def PySem.W.Fast.tw7412939085448055869 : Unit := ()
def PySem.W.Fast.tw17506531369699350107 : Unit := ()
def PySem.W.Fast.tw2849496796169838421 : Unit := ()
def PySem.W.Fast.tw3720852566698756567 : Unit := ()
def PySem.W.Fast.tw16675254540355036168 : Unit := ()
def PySem.W.Fast.tw11111019221790955626 : Unit := ()
def PySem.W.Fast.tw12802455549567448702 : Unit := ()
def PySem.W.Fast.tw1397271422703689509 : Unit := ()
def PySem.W.Fast.tw1378357341617034161 : Unit := ()
def PySem.W.Fast.tw11678036501927085817 : Unit := ()
def PySem.W.Fast.tw5866398826536760312 : Unit := ()
def PySem.W.Fast.tw11391707812354181211 : Unit := ()
def PySem.W.Fast.tw3434173588241388517 : Unit := ()
def PySem.W.Fast.tw16760057934105424205 : Unit := ()
def PySem.W.Fast.tw763100574384954436 : Unit := ()
def PySem.W.Fast.tw11275124451537827599 : Unit := ()
def PySem.W.Fast.tw11298083151978729759 : Unit := ()
def PySem.W.Fast.tw13703517059415073204 : Unit := ()
def PySem.W.Fast.tw2160953160932710429 : Unit := ()
def PySem.W.Fast.tw10213500165679433183 : Unit := ()
def PySem.W.Fast.tw7495338328630284532 : Unit := ()
def PySem.W.Fast.tw8193824848705728787 : Unit := ()
def PySem.W.Fast.tw15037694776320723927 : Unit := ()
def PySem.W.Fast.tw11700699632385918000 : Unit := ()
def PySem.W.Fast.tw4932239744995332702 : Unit := ()
def PySem.W.Fast.tw5043602173422930348 : Unit := ()
def PySem.W.Fast.tw2302426920365306372 : Unit := ()
def PySem.W.Fast.tw5689853463580128065 : Unit := ()
def PySem.W.Fast.tw6253836239958338307 : Unit := ()
def PySem.W.Fast.tw3078159477538445361 : Unit := ()
def PySem.W.Fast.tw9943658787271025130 : Unit := ()
def PySem.W.Fast.tw6558260238120238394 : Unit := ()
def PySem.W.Fast.tw6550415661930361356 : Unit := ()
def PySem.W.Fast.tw6731724521467619962 : Unit := ()
def PySem.W.Fast.tw1571969192049935843 : Unit := ()
def PySem.W.Fast.tw2020590384642856959 : Unit := ()
def PySem.W.Fast.tw17957427624286256569 : Unit := ()
def PySem.W.Fast.tw4784619515436801842 : Unit := ()
def PySem.W.Fast.tw10676391101161831706 : Unit := ()
def PySem.W.Fast.tw4990909665838333099 : Unit := ()
def PySem.W.Fast.tw7128658117130792564 : Unit := ()
def PySem.W.Fast.tw2354603077094620744 : Unit := ()
def PySem.W.Fast.tw6765047831041822782 : Unit := ()
def PySem.W.Fast.tw16930077069907639082 : Unit := ()
def PySem.W.Fast.tw16061326250689940853 : Unit := ()
def PySem.W.Fast.tw8125913743497807357 : Unit := ()
def PySem.W.Fast.tw1512038409190421928 : Unit := ()
def PySem.W.Fast.tw13307556395855150829 : Unit := ()
def PySem.W.Fast.tw6120644430460398383 : Unit := ()
def PySem.W.Fast.tw121059179164108122 : Unit := ()
def PySem.W.Fast.tw10417382233137071206 : Unit := ()
def PySem.W.Fast.tw10358859281894895431 : Unit := ()
def PySem.W.Fast.tw16518474814599666991 : Unit := ()
def PySem.W.Fast.tw11338081767915327922 : Unit := ()
def PySem.W.Fast.tw491245487079283251 : Unit := ()
def PySem.W.Fast.tw4990133576586556100 : Unit := ()
def PySem.W.Fast.tw5316655806617977870 : Unit := ()
def PySem.W.Fast.tw15304437715057774151 : Unit := ()
def PySem.W.Fast.tw8512852951014947137 : Unit := ()
def PySem.W.Fast.tw5031347594698158218 : Unit := ()
def PySem.W.Fast.tw4373078960318196350 : Unit := ()
def PySem.W.Fast.tw5174907545399435529 : Unit := ()
def PySem.W.Fast.tw3172542119558539791 : Unit := ()
def PySem.W.Fast.tw15250914596939388524 : Unit := ()
def PySem.W.Fast.tw2004473286567017036 : Unit := ()
def PySem.W.Fast.tw10142789796736863258 : Unit := ()
def PySem.W.Fast.tw8122951250103496113 : Unit := ()
def PySem.W.Fast.tw867924907435913972 : Unit := ()
def PySem.W.Fast.tw5162765547892803440 : Unit := ()
def PySem.W.Fast.tw6375190882247394986 : Unit := ()
def PySem.W.Fast.tw15948913782034148020 : Unit := ()
def PySem.W.Fast.tw12069370860978428639 : Unit := ()
def PySem.W.Fast.tw12796160465287143389 : Unit := ()
def PySem.W.Fast.tw2976844527016947133 : Unit := ()
def PySem.W.Fast.tw8912297257489306786 : Unit := ()
def PySem.W.Fast.tw5268945059531954751 : Unit := ()
def PySem.W.Fast.tw3489559035512842747 : Unit := ()
def PySem.W.Fast.tw1999152224016066794 : Unit := ()
def PySem.W.Fast.tw14573751259087675004 : Unit := ()
def PySem.W.Fast.tw14204055854455182236 : Unit := ()
def PySem.W.Fast.tw17846270710668208174 : Unit := ()
def PySem.W.Fast.tw15178877961308295596 : Unit := ()
def PySem.W.Fast.tw12493940140536802745 : Unit := ()
def PySem.W.Fast.tw10865498231056617598 : Unit := ()
def PySem.W.Fast.tw4176482806460870131 : Unit := ()
def PySem.W.Fast.tw2592031024691253599 : Unit := ()
def PySem.W.Fast.tw485012334947132203 : Unit := ()
def PySem.W.Fast.tw10532549141974484593 : Unit := ()
def PySem.W.Fast.tw1362119759310830602 : Unit := ()
def PySem.W.Fast.tw16009465752094792037 : Unit := ()
def PySem.W.Fast.tw7139066792602931869 : Unit := ()
def PySem.W.Fast.tw6418690690571190416 : Unit := ()
def PySem.W.Fast.tw10406863906040799326 : Unit := ()
def PySem.W.Fast.tw13076185439071179830 : Unit := ()
def PySem.W.Fast.tw7447793624070027041 : Unit := ()
def PySem.W.Fast.tw8565837343226805987 : Unit := ()
def PySem.W.Fast.tw16343861882130742658 : Unit := ()
def PySem.W.Fast.tw16098860246992461225 : Unit := ()
def PySem.W.Fast.tw11924180787822564649 : Unit := ()
def PySem.W.Fast.tw8181404028617853902 : Unit := ()
def PySem.W.Fast.tw2894822863946457817 : Unit := ()
def PySem.W.Fast.tw13320530137970519827 : Unit := ()
def PySem.W.Fast.tw1955040047549180026 : Unit := ()
def PySem.W.Fast.tw15874096615191154133 : Unit := ()
def PySem.W.Fast.tw17277728549843736638 : Unit := ()
def PySem.W.Fast.tw7788242145755835286 : Unit := ()
def PySem.W.Fast.tw2560516760735110454 : Unit := ()
def PySem.W.Fast.tw6562957919306402562 : Unit := ()
def PySem.W.Fast.tw5115197575621911549 : Unit := ()
def PySem.W.Fast.tw15560175193579135131 : Unit := ()
def PySem.W.Fast.tw12209699657497979943 : Unit := ()
def PySem.W.Fast.tw12662603399189111418 : Unit := ()
def PySem.W.Fast.tw705774918548405014 : Unit := ()
def PySem.W.Fast.tw10213116083123030370 : Unit := ()
def PySem.W.Fast.tw10034512945751852482 : Unit := ()
def PySem.W.Fast.tw3318384751847680715 : Unit := ()
def PySem.W.Fast.tw7976926319770271303 : Unit := ()
def PySem.W.Fast.tw3504706771758039867 : Unit := ()
def PySem.W.Fast.tw8796897271901980905 : Unit := ()
def PySem.W.Fast.tw1747602802190062495 : Unit := ()
def PySem.W.Fast.tw17391165101321229938 : Unit := ()
def PySem.W.Fast.tw14649469455275157365 : Unit := ()
def PySem.W.Fast.tw12996109239671540352 : Unit := ()
def PySem.W.Fast.tw1174132285426118901 : Unit := ()
def PySem.W.Fast.tw2931772535688606764 : Unit := ()
def PySem.W.Fast.tw12644529153785211227 : Unit := ()
def PySem.W.Fast.tw9171040077945951823 : Unit := ()
def PySem.W.Fast.tw15093306471308581089 : Unit := ()
def PySem.W.Fast.tw7767994772259892362 : Unit := ()
def PySem.W.Fast.tw11963205500980243711 : Unit := ()
def PySem.W.Fast.tw8755872396851766226 : Unit := ()
def PySem.W.Fast.tw8814184398832772393 : Unit := ()
def PySem.W.Fast.tw6405265918131316066 : Unit := ()
def PySem.W.Fast.tw9175332104841513235 : Unit := ()
def PySem.W.Fast.tw13183810786264682050 : Unit := ()
def PySem.W.Fast.tw13622382613656401337 : Unit := ()
def PySem.W.Fast.tw7033293982663461368 : Unit := ()
def PySem.W.Fast.tw12404394610738901767 : Unit := ()
def PySem.W.Fast.tw2680519551269076634 : Unit := ()
def PySem.W.Fast.tw11784320408842458445 : Unit := ()
def PySem.W.Fast.tw18377814063281030731 : Unit := ()
def PySem.W.Fast.tw16630833571964496007 : Unit := ()
def PySem.W.Fast.tw7842954024258843323 : Unit := ()
def PySem.W.Fast.tw10513005888783481307 : Unit := ()
def PySem.W.Fast.tw4646016749323343826 : Unit := ()
def PySem.W.Fast.tw13734208391527064944 : Unit := ()
def PySem.W.Fast.tw845569593904515021 : Unit := ()
def PySem.W.Fast.tw10460941915660225394 : Unit := ()
def PySem.W.Fast.tw9278180037558693689 : Unit := ()
def PySem.W.Fast.tw7981999743388720328 : Unit := ()
def PySem.W.Fast.tw2648124762346894101 : Unit := ()
def PySem.W.Fast.tw13752350021816085899 : Unit := ()
def PySem.W.Fast.tw3939983527286604211 : Unit := ()
def PySem.W.Fast.tw16198101425173376149 : Unit := ()
def PySem.W.Fast.tw16241765466292293467 : Unit := ()
def PySem.W.Fast.tw16800302078838340618 : Unit := ()
def PySem.W.Fast.tw1935572622664432282 : Unit := ()
def PySem.W.Fast.tw12644877275708686839 : Unit := ()
def PySem.W.Fast.tw1838624714570547784 : Unit := ()
def PySem.W.Fast.tw15872237659546032785 : Unit := ()
def PySem.W.Fast.tw1326415986650620866 : Unit := ()
def PySem.W.Fast.tw751834708448861055 : Unit := ()
def PySem.W.Fast.tw1987403670952934829 : Unit := ()
def PySem.W.Fast.tw12510819798401246634 : Unit := ()
def PySem.W.Fast.tw10206162414854565192 : Unit := ()
def PySem.W.Fast.tw14545751545739015244 : Unit := ()
def PySem.W.Fast.tw15503550505382085476 : Unit := ()
def PySem.W.Fast.tw6055270290167663921 : Unit := ()
def PySem.W.Fast.tw17910196927446722017 : Unit := ()
def PySem.W.Fast.tw5030538965803419630 : Unit := ()
def PySem.W.Fast.tw11723417986492566952 : Unit := ()
def PySem.W.Fast.tw14035823925157115450 : Unit := ()
def PySem.W.Fast.tw12382346722482342912 : Unit := ()
def PySem.W.Fast.tw9536593640759831856 : Unit := ()
def PySem.W.Fast.tw16043507681754800457 : Unit := ()
def PySem.W.Fast.tw3591544543035890140 : Unit := ()
def PySem.W.Fast.tw92390698065381747 : Unit := ()
def PySem.W.Fast.tw751719078740331565 : Unit := ()
def PySem.W.Fast.tw13965054411843516772 : Unit := ()
def PySem.W.Fast.tw3685898877607968678 : Unit := ()
def PySem.W.Fast.tw13807151573413542567 : Unit := ()
def PySem.W.Fast.tw9974312309827395581 : Unit := ()
def PySem.W.Fast.tw5187182514161138714 : Unit := ()
def PySem.W.Fast.tw9729289529002174508 : Unit := ()
def PySem.W.Fast.tw16686616511916452519 : Unit := ()
def PySem.W.Fast.tw7503440732357867184 : Unit := ()
def PySem.W.Fast.tw5750996956261079035 : Unit := ()
def PySem.W.Fast.tw12478934862512785551 : Unit := ()
def PySem.W.Fast.tw2637921017136254481 : Unit := ()
def PySem.W.Fast.tw12665803509295305388 : Unit := ()
def PySem.W.Fast.tw18065872230438861579 : Unit := ()
def PySem.W.Fast.tw16527205482280222450 : Unit := ()
def PySem.W.Fast.tw16316575954696808482 : Unit := ()
def PySem.W.Fast.tw5027697598408848808 : Unit := ()
def PySem.W.Fast.tw4124106910702736850 : Unit := ()
def PySem.W.Fast.tw593162024287797272 : Unit := ()
def PySem.W.Fast.tw13734876957536822184 : Unit := ()
def PySem.W.Fast.tw15878932645642305127 : Unit := ()
def PySem.W.Fast.tw9071020070552265786 : Unit := ()
def PySem.W.Fast.tw489178802148527234 : Unit := ()
def PySem.W.Fast.tw6713445096483552692 : Unit := ()
def PySem.W.Fast.tw3248738849851038029 : Unit := ()
def PySem.W.Fast.tw12930123176831812257 : Unit := ()
def PySem.W.Fast.tw899709555172480224 : Unit := ()
def PySem.W.Fast.tw662083895908836097 : Unit := ()
def PySem.W.Fast.tw839312901651076897 : Unit := ()
def PySem.W.Fast.tw5437909852998280571 : Unit := ()
def PySem.W.Fast.tw13965107002912314593 : Unit := ()
def PySem.W.Fast.tw5998235274222282351 : Unit := ()
def PySem.W.Fast.tw7350498985860416639 : Unit := ()
def PySem.W.Fast.tw14367640492442683982 : Unit := ()
def PySem.W.Fast.tw16251191459844000716 : Unit := ()
def PySem.W.Fast.tw12528525714766383059 : Unit := ()
def PySem.W.Fast.tw13316074887407579581 : Unit := ()
def PySem.W.Fast.tw15609248712197865080 : Unit := ()
def PySem.W.Fast.tw12586158199801311122 : Unit := ()
def PySem.W.Fast.tw5664388519153223668 : Unit := ()
def PySem.W.Fast.tw16416676778673437059 : Unit := ()
def PySem.W.Fast.tw16542986420743601824 : Unit := ()
def PySem.W.Fast.tw1201582216068048326 : Unit := ()
def PySem.W.Fast.tw7061745028996024935 : Unit := ()
def PySem.W.Fast.tw5086319140719074423 : Unit := ()
def PySem.W.Fast.tw12316426847909476891 : Unit := ()
def PySem.W.Fast.tw8493736948988771866 : Unit := ()
def PySem.W.Fast.tw14235585072378793603 : Unit := ()
def PySem.W.Fast.tw2925833239523062478 : Unit := ()
def PySem.W.Fast.tw12274809013907518862 : Unit := ()
def PySem.W.Fast.tw10490380880269642428 : Unit := ()
def PySem.W.Fast.tw137284744422726095 : Unit := ()
def PySem.W.Fast.tw9491299143079239857 : Unit := ()
def PySem.W.Fast.tw17911792057837928513 : Unit := ()
def PySem.W.Fast.tw14151613358679400742 : Unit := ()
def PySem.W.Fast.tw9460838746287901752 : Unit := ()
def PySem.W.Fast.tw5010998702552523070 : Unit := ()
def PySem.W.Fast.tw14533321897934596881 : Unit := ()
def PySem.W.Fast.tw3516651808592310364 : Unit := ()
def PySem.W.Fast.tw10050455951855173405 : Unit := ()
def PySem.W.Fast.tw11010477540356366814 : Unit := ()
def PySem.W.Fast.tw18435515718687764906 : Unit := ()
def PySem.W.Fast.tw4403445176434583064 : Unit := ()
def PySem.W.Fast.tw15934144516599326711 : Unit := ()
def PySem.W.Fast.tw17618834697878783382 : Unit := ()
def PySem.W.Fast.tw5595219159795908104 : Unit := ()
def PySem.W.Fast.tw8721619787358641947 : Unit := ()
def PySem.W.Fast.tw2997015328381997666 : Unit := ()
def PySem.W.Fast.tw3541487334502209406 : Unit := ()
def PySem.W.Fast.tw13813048253323271242 : Unit := ()
def PySem.W.Fast.tw5862000320156973923 : Unit := ()
def PySem.W.Fast.tw17821639616686532315 : Unit := ()
def PySem.W.Fast.tw15427062288340350712 : Unit := ()
def PySem.W.Fast.tw7333404668012677437 : Unit := ()
def PySem.W.Fast.tw13692482101716437331 : Unit := ()
def PySem.W.Fast.tw13450637864233945954 : Unit := ()
def PySem.W.Fast.tw15440807823155012476 : Unit := ()
def PySem.W.Fast.tw6942990055761225530 : Unit := ()
def PySem.W.Fast.tw14493170904818232422 : Unit := ()
def PySem.W.Fast.tw9144403744833745767 : Unit := ()
def PySem.W.Fast.tw1954147722257705102 : Unit := ()
def PySem.W.Fast.tw15785108214107101775 : Unit := ()
def PySem.W.Fast.tw5976311248737617393 : Unit := ()
def PySem.W.Fast.tw5438889560403272144 : Unit := ()
def PySem.W.Fast.tw15167827984506973995 : Unit := ()
def PySem.W.Fast.tw18058271447700288690 : Unit := ()
def PySem.W.Fast.tw3181089537656494817 : Unit := ()
def PySem.W.Fast.tw18169823112503948792 : Unit := ()
def PySem.W.Fast.tw2865671031893956895 : Unit := ()
def PySem.W.Fast.tw7086957556742926248 : Unit := ()
def PySem.W.Fast.tw1119436331530600647 : Unit := ()
def PySem.W.Fast.tw17943782397932355119 : Unit := ()
def PySem.W.Fast.tw17478228738970222319 : Unit := ()
def PySem.W.Fast.tw11027439137634138205 : Unit := ()
def PySem.W.Fast.tw9650712625622154899 : Unit := ()
def PySem.W.Fast.tw2189549361868149256 : Unit := ()
def PySem.W.Fast.tw7850578109280668699 : Unit := ()
def PySem.W.Fast.tw13876718000193011784 : Unit := ()
def PySem.W.Fast.tw4369432366452871235 : Unit := ()
def PySem.W.Fast.tw11815072358590867237 : Unit := ()
def PySem.W.Fast.tw13152638086762583032 : Unit := ()
def PySem.W.Fast.tw8657810392157576922 : Unit := ()
def PySem.W.Fast.tw17450867149615234416 : Unit := ()
def PySem.W.Fast.tw3395679251400304114 : Unit := ()
def PySem.W.Fast.tw2110456885096658177 : Unit := ()
def PySem.W.Fast.tw2699876788528180330 : Unit := ()
def PySem.W.Fast.tw17361578996594339020 : Unit := ()
def PySem.W.Fast.tw9098377988133486411 : Unit := ()
def PySem.W.Fast.tw8933294685249440933 : Unit := ()
def PySem.W.Fast.tw2294601272628860378 : Unit := ()
def PySem.W.Fast.tw3797463410226095973 : Unit := ()
def PySem.W.Fast.tw8102163677890986512 : Unit := ()
def PySem.W.Fast.tw8263294366420414899 : Unit := ()
def PySem.W.Fast.tw14320637675136268553 : Unit := ()
def PySem.W.Fast.tw10776298365091125096 : Unit := ()
def PySem.W.Fast.tw16678031818781831423 : Unit := ()
def PySem.W.Fast.tw1868216924228158857 : Unit := ()
def PySem.W.Fast.tw9255467843642418458 : Unit := ()
def PySem.W.Fast.tw14354716538038119578 : Unit := ()
def PySem.W.Fast.tw16629194449021388772 : Unit := ()
def PySem.W.Fast.tw18158052240780641887 : Unit := ()
def PySem.W.Fast.tw4649705298469136067 : Unit := ()
def PySem.W.Fast.tw6149590398524384547 : Unit := ()
def PySem.W.Fast.tw6263124018827887698 : Unit := ()
def PySem.W.Fast.tw17563030927996898619 : Unit := ()
def PySem.W.Fast.tw3511415172030736819 : Unit := ()
def PySem.W.Fast.tw15188685534350209858 : Unit := ()
def PySem.W.Fast.tw11881130719258548566 : Unit := ()
def PySem.W.Fast.tw281504339328108373 : Unit := ()
def PySem.W.Fast.tw13330139372330762353 : Unit := ()
def PySem.W.Fast.tw11851327019826907776 : Unit := ()
def PySem.W.Fast.tw4154689396962056138 : Unit := ()
def PySem.W.Fast.tw7088275827565447537 : Unit := ()
def PySem.W.Fast.tw13448244598535715654 : Unit := ()
def PySem.W.Fast.tw16307849440797578677 : Unit := ()
def PySem.W.Fast.tw3089158118928739485 : Unit := ()
def PySem.W.Fast.tw18055226422905712235 : Unit := ()
def PySem.W.Fast.tw6041663100227605684 : Unit := ()
def PySem.W.Fast.tw7874080161793751986 : Unit := ()
def PySem.W.Fast.tw17105580957217800781 : Unit := ()
def PySem.W.Fast.tw180223857016625169 : Unit := ()
def PySem.W.Fast.tw16499754221678376984 : Unit := ()
def PySem.W.Fast.tw12316839954766735102 : Unit := ()
def PySem.W.Fast.tw9272853383754589963 : Unit := ()
def PySem.W.Fast.tw2209199478928471469 : Unit := ()
def PySem.W.Fast.tw10241826320489275705 : Unit := ()
def PySem.W.Fast.tw17365385314471792904 : Unit := ()
def PySem.W.Fast.tw14522329110408371312 : Unit := ()
def PySem.W.Fast.tw9291027646035666409 : Unit := ()
def PySem.W.Fast.tw7319893281216284631 : Unit := ()
def PySem.W.Fast.tw9250620169858606096 : Unit := ()
def PySem.W.Fast.tw4820302989352348430 : Unit := ()
def PySem.W.Fast.tw18165642543418821269 : Unit := ()
def PySem.W.Fast.tw4759843991429059044 : Unit := ()
def PySem.W.Fast.tw9101441418319201717 : Unit := ()
def PySem.W.Fast.tw4463396673951985176 : Unit := ()
def PySem.W.Fast.tw12635505603817937929 : Unit := ()
def PySem.W.Fast.tw5083826258921579249 : Unit := ()
def PySem.W.Fast.tw10373952992614445364 : Unit := ()
def PySem.W.Fast.tw14493065532625738205 : Unit := ()
def PySem.W.Fast.tw15965355551708960522 : Unit := ()
def PySem.W.Fast.tw5723464713524087577 : Unit := ()
def PySem.W.Fast.tw366868426046031405 : Unit := ()
def PySem.W.Fast.tw17546974108034760020 : Unit := ()
def PySem.W.Fast.tw2239693809991087698 : Unit := ()
def PySem.W.Fast.tw5935906634504755106 : Unit := ()
def PySem.W.Fast.tw921251549210873868 : Unit := ()
def PySem.W.Fast.tw10309834169499144233 : Unit := ()
def PySem.W.Fast.tw14051577825805959741 : Unit := ()
def PySem.W.Fast.tw9505492266832678614 : Unit := ()
def PySem.W.Fast.tw12079389869893394882 : Unit := ()
def PySem.W.Fast.tw12267173133829334160 : Unit := ()
def PySem.W.Fast.tw9864322793513197835 : Unit := ()
def PySem.W.Fast.tw6610530618865161447 : Unit := ()
def PySem.W.Fast.tw2960862596226035903 : Unit := ()
def PySem.W.Fast.tw9031401872741687573 : Unit := ()
def PySem.W.Fast.tw940556686606726644 : Unit := ()
def PySem.W.Fast.tw12975659926738576636 : Unit := ()
def PySem.W.Fast.tw10006222141325533042 : Unit := ()
def PySem.W.Fast.tw13873452801883426876 : Unit := ()
def PySem.W.Fast.tw1029024730525787256 : Unit := ()
def PySem.W.Fast.tw5638185834941795110 : Unit := ()
def PySem.W.Fast.tw9827359947470872503 : Unit := ()
def PySem.W.Fast.tw3630111405907840128 : Unit := ()
def PySem.W.Fast.tw440302163208587530 : Unit := ()
def PySem.W.Fast.tw6638694276830419009 : Unit := ()
def PySem.W.Fast.tw4663795179332806306 : Unit := ()
def PySem.W.Fast.tw15427444234348124247 : Unit := ()
def PySem.W.Fast.tw13343869480405184789 : Unit := ()
def PySem.W.Fast.tw16451758618933753219 : Unit := ()
def PySem.W.Fast.tw5319633536678987807 : Unit := ()
def PySem.W.Fast.tw913877477701214302 : Unit := ()
def PySem.W.Fast.tw4558461005861739655 : Unit := ()
def PySem.W.Fast.tw1147007146474295257 : Unit := ()
def PySem.W.Fast.tw773108978916761284 : Unit := ()
def PySem.W.Fast.tw99142036973145189 : Unit := ()
def PySem.W.Fast.tw17416106446557874937 : Unit := ()
def PySem.W.Fast.tw13342391544908339142 : Unit := ()
def PySem.W.Fast.tw5005829104562417320 : Unit := ()
def PySem.W.Fast.tw11482357023193141019 : Unit := ()
def PySem.W.Fast.tw161031254042799643 : Unit := ()
def PySem.W.Fast.tw10685039476042028565 : Unit := ()
def PySem.W.Fast.tw3927301020928097916 : Unit := ()
def PySem.W.Fast.tw10537214771859151493 : Unit := ()
def PySem.W.Fast.tw2484147810421006745 : Unit := ()
def PySem.W.Fast.tw12705124092985736864 : Unit := ()
def PySem.W.Fast.tw5750188055055154794 : Unit := ()
def PySem.W.Fast.tw5772921098398298141 : Unit := ()
def PySem.W.Fast.tw702945875867347205 : Unit := ()
def PySem.W.Fast.tw10657884642662758167 : Unit := ()
def PySem.W.Fast.tw13745532065158708503 : Unit := ()
def PySem.W.Fast.tw9812040935320412309 : Unit := ()
def PySem.W.Fast.tw3347109777064928679 : Unit := ()
def PySem.W.Fast.tw9792439265600305302 : Unit := ()
def PySem.W.Fast.tw12373763078355221233 : Unit := ()
def PySem.W.Fast.tw12486594068389140978 : Unit := ()
def PySem.W.Fast.tw10137422312744902222 : Unit := ()
def PySem.W.Fast.tw13537616646722941138 : Unit := ()
def PySem.W.Fast.tw5150401496190784481 : Unit := ()
def PySem.W.Fast.tw5818390810949303806 : Unit := ()
def PySem.W.Fast.tw17027139206124624637 : Unit := ()
def PySem.W.Fast.tw15138722236207089062 : Unit := ()
def PySem.W.Fast.tw13960307878741637768 : Unit := ()
def PySem.W.Fast.tw3583394372879936337 : Unit := ()
def PySem.W.Fast.tw3462721133234997595 : Unit := ()
def PySem.W.Fast.tw2168341474728092088 : Unit := ()
def PySem.W.Fast.tw493990682164525445 : Unit := ()
def PySem.W.Fast.tw12828532944684632129 : Unit := ()
def PySem.W.Fast.tw10696688429691749941 : Unit := ()
def PySem.W.Fast.tw1503339627413914766 : Unit := ()
def PySem.W.Fast.tw565386005656156948 : Unit := ()
def PySem.W.Fast.tw12737433466613647361 : Unit := ()
def PySem.W.Fast.tw8474527258724847888 : Unit := ()
def PySem.W.Fast.tw14505653670037506266 : Unit := ()
def PySem.W.Fast.tw8862169321061368524 : Unit := ()
def PySem.W.Fast.tw1597080954766570869 : Unit := ()
def PySem.W.Fast.tw11744553898766090541 : Unit := ()
def PySem.W.Fast.tw2004637609148843843 : Unit := ()
def PySem.W.Fast.tw10637794557757861144 : Unit := ()
def PySem.W.Fast.tw13837280161385963825 : Unit := ()
def PySem.W.Fast.tw1584048162228524054 : Unit := ()
def PySem.W.Fast.tw10281354332930511253 : Unit := ()
def PySem.W.Fast.tw6002910896739122806 : Unit := ()
def PySem.W.Fast.tw15662591148687989801 : Unit := ()
def PySem.W.Fast.tw14001827809029471008 : Unit := ()
def PySem.W.Fast.tw12249342858681923526 : Unit := ()
def PySem.W.Fast.tw3551168126605203211 : Unit := ()
def PySem.W.Fast.tw12446336100377221262 : Unit := ()
def PySem.W.Fast.tw12038930251360249467 : Unit := ()
def PySem.W.Fast.tw5418726243806612911 : Unit := ()
def PySem.W.Fast.tw10378690876081563363 : Unit := ()
def PySem.W.Fast.tw11797490047684459802 : Unit := ()
def PySem.W.Fast.tw16852020444804819677 : Unit := ()
def PySem.W.Fast.tw6648482825647082191 : Unit := ()
def PySem.W.Fast.tw13359383474137623462 : Unit := ()
def PySem.W.Fast.tw15597052082220072403 : Unit := ()
def PySem.W.Fast.tw12439081645072338989 : Unit := ()
def PySem.W.Fast.tw2474366549880750006 : Unit := ()
def PySem.W.Fast.tw7848049959754319964 : Unit := ()
def PySem.W.Fast.tw6756191043355332315 : Unit := ()
def PySem.W.Fast.tw7970753729765412222 : Unit := ()
def PySem.W.Fast.tw11557396285586829664 : Unit := ()
def PySem.W.Fast.tw10940552373260751529 : Unit := ()
def PySem.W.Fast.tw13766051158448161981 : Unit := ()
def PySem.W.Fast.tw1283778191238267844 : Unit := ()
def PySem.W.Fast.tw11162144914773788813 : Unit := ()
def PySem.W.Fast.tw13872031433692710031 : Unit := ()
def PySem.W.Fast.tw17614474094798140962 : Unit := ()
def PySem.W.Fast.tw10738695937590034201 : Unit := ()
def PySem.W.Fast.tw2729827881847700564 : Unit := ()
def PySem.W.Fast.tw13862551973607984130 : Unit := ()
def PySem.W.Fast.tw5285436651218227929 : Unit := ()
def PySem.W.Fast.tw9163406584982285043 : Unit := ()
def PySem.W.Fast.tw12142168078159284771 : Unit := ()
def PySem.W.Fast.tw5454083767809104293 : Unit := ()
def PySem.W.Fast.tw842438728179753270 : Unit := ()
def PySem.W.Fast.tw15269069699876656538 : Unit := ()
def PySem.W.Fast.tw452023608722135735 : Unit := ()
def PySem.W.Fast.tw307398004344825926 : Unit := ()
def PySem.W.Fast.tw12135513964983033830 : Unit := ()
def PySem.W.Fast.tw1292252292469592498 : Unit := ()
def PySem.W.Fast.tw4787557020607503384 : Unit := ()
def PySem.W.Fast.tw1681211457075194674 : Unit := ()
def PySem.W.Fast.tw7148915667510958936 : Unit := ()
def PySem.W.Fast.tw9589967460486921026 : Unit := ()
def PySem.W.Fast.tw6553178241338136999 : Unit := ()
def PySem.W.Fast.tw14213299029249269410 : Unit := ()
def PySem.W.Fast.tw11051076863773730833 : Unit := ()
def PySem.W.Fast.tw17120694884751122378 : Unit := ()
def PySem.W.Fast.tw3864589240506303075 : Unit := ()
def PySem.W.Fast.tw5634011160368398916 : Unit := ()
def PySem.W.Fast.tw3681665915400734365 : Unit := ()
def PySem.W.Fast.tw12834266097918366218 : Unit := ()
def PySem.W.Fast.tw12526985936216624450 : Unit := ()
def PySem.W.Fast.tw4700657430352270543 : Unit := ()
def PySem.W.Fast.tw10610049792003334076 : Unit := ()
def PySem.W.Fast.tw10800801002300076405 : Unit := ()
def PySem.W.Fast.tw18297190183593871373 : Unit := ()
def PySem.W.Fast.tw9421522299276111890 : Unit := ()
def PySem.W.Fast.tw14778059432666255067 : Unit := ()
def PySem.W.Fast.tw4433746449359461373 : Unit := ()
def PySem.W.Fast.tw52655897718124372 : Unit := ()
def PySem.W.Fast.tw15836393244679067030 : Unit := ()
def PySem.W.Fast.tw2658024414866142754 : Unit := ()
def PySem.W.Fast.tw9738108052068248968 : Unit := ()
def PySem.W.Fast.tw12906552807763588603 : Unit := ()
def PySem.W.Fast.tw3367044287216211084 : Unit := ()
def PySem.W.Fast.tw3907008897090522870 : Unit := ()
def PySem.W.Fast.tw5652106807500830809 : Unit := ()
def PySem.W.Fast.tw1632418353456901540 : Unit := ()
def PySem.W.Fast.tw17481331720068743558 : Unit := ()
def PySem.W.Fast.tw5852448578215428147 : Unit := ()
def PySem.W.Fast.tw14942170883154509085 : Unit := ()
def PySem.W.Fast.tw15943354445169059627 : Unit := ()
def PySem.W.Fast.tw5635645382505790518 : Unit := ()
def PySem.W.Fast.tw11605023082026623365 : Unit := ()
def PySem.W.Fast.tw14220119156572452977 : Unit := ()
def PySem.W.Fast.tw1721387586869361977 : Unit := ()
def PySem.W.Fast.tw2117816190973174437 : Unit := ()
def PySem.W.Fast.tw9420407385997163096 : Unit := ()
def PySem.W.Fast.tw16141397725930371740 : Unit := ()
def PySem.W.Fast.tw17989461465053313096 : Unit := ()
def PySem.W.Fast.tw14583649493791764072 : Unit := ()
def PySem.W.Fast.tw10081773406641587799 : Unit := ()
def PySem.W.Fast.tw1876855910016614790 : Unit := ()
def PySem.W.Fast.tw17183954393541956897 : Unit := ()
def PySem.W.Fast.tw14717838618078349069 : Unit := ()
def PySem.W.Fast.tw7687608290990326625 : Unit := ()
def PySem.W.Fast.tw8375062947149686043 : Unit := ()
def PySem.W.Fast.tw12087590511687563721 : Unit := ()
def PySem.W.Fast.tw7043241442978649768 : Unit := ()
def PySem.W.Fast.tw13571508906445874912 : Unit := ()
def PySem.W.Fast.tw9074625228822897239 : Unit := ()
def PySem.W.Fast.tw6439368581090363666 : Unit := ()
def PySem.W.Fast.tw5282501440606385860 : Unit := ()
def PySem.W.Fast.tw13838337965381001169 : Unit := ()
def PySem.W.Fast.tw1137185703341873512 : Unit := ()
def PySem.W.Fast.tw5190852030259360111 : Unit := ()
def PySem.W.Fast.tw5497299767776268658 : Unit := ()
def PySem.W.Fast.tw18297750589199606414 : Unit := ()
def PySem.W.Fast.tw16779548415541973308 : Unit := ()
def PySem.W.Fast.tw11512954124978754420 : Unit := ()
def PySem.W.Fast.tw8256677042979536792 : Unit := ()
def PySem.W.Fast.tw16805492936767508550 : Unit := ()
def PySem.W.Fast.tw2609023755601406618 : Unit := ()
def PySem.W.Fast.tw13758625993175421432 : Unit := ()
def PySem.W.Fast.tw3256174125673299027 : Unit := ()
def PySem.W.Fast.tw5201243119058344835 : Unit := ()
def PySem.W.Fast.tw6070968480640449561 : Unit := ()
def PySem.W.Fast.tw11873885173328653463 : Unit := ()
def PySem.W.Fast.tw9728286953922570846 : Unit := ()
def PySem.W.Fast.tw14885999113652953061 : Unit := ()
def PySem.W.Fast.tw13643254079647137092 : Unit := ()
def PySem.W.Fast.tw12823215666495235489 : Unit := ()
def PySem.W.Fast.tw12605568251001399974 : Unit := ()
def PySem.W.Fast.tw5728389716547363878 : Unit := ()
def PySem.W.Fast.tw11287434998117471130 : Unit := ()
def PySem.W.Fast.tw15866422232414971643 : Unit := ()
def PySem.W.Fast.tw15008625799664994378 : Unit := ()
def PySem.W.Fast.tw11615078342338092833 : Unit := ()
def PySem.W.Fast.tw3343824671810187909 : Unit := ()
def PySem.W.Fast.tw6721755050665642455 : Unit := ()
def PySem.W.Fast.tw3291610426996095918 : Unit := ()
def PySem.W.Fast.tw7054054192148693230 : Unit := ()
def PySem.W.Fast.tw13826830644968436420 : Unit := ()
def PySem.W.Fast.tw5007945867373908535 : Unit := ()
def PySem.W.Fast.tw15320640938595015549 : Unit := ()
def PySem.W.Fast.tw6118670751786796497 : Unit := ()
def PySem.W.Fast.tw14808207322772438611 : Unit := ()
def PySem.W.Fast.tw9073603788168106494 : Unit := ()
def PySem.W.Fast.tw3814623789722033310 : Unit := ()
def PySem.W.Fast.tw11738358386312270756 : Unit := ()
def PySem.W.Fast.tw4878564615894058303 : Unit := ()
def PySem.W.Fast.tw10356920703819661630 : Unit := ()
def PySem.W.Fast.tw12159736444427885208 : Unit := ()
def PySem.W.Fast.tw12364260251941367690 : Unit := ()
def PySem.W.Fast.tw14477441381738777859 : Unit := ()
def PySem.W.Fast.tw10162433806214287340 : Unit := ()
def PySem.W.Fast.tw2735964090982858242 : Unit := ()
def PySem.W.Fast.tw18019859476042118852 : Unit := ()
def PySem.W.Fast.tw1323423508103442714 : Unit := ()
def PySem.W.Fast.tw17976876217866763757 : Unit := ()
def PySem.W.Fast.tw14996916092852730079 : Unit := ()
def PySem.W.Fast.tw7767262649273388845 : Unit := ()
def PySem.W.Fast.tw16720064261795284830 : Unit := ()
def PySem.W.Fast.tw985487670025652544 : Unit := ()
def PySem.W.Fast.tw16542539000077712765 : Unit := ()
def PySem.W.Fast.tw10064337205214829663 : Unit := ()
def PySem.W.Fast.tw16452178826507776778 : Unit := ()
def PySem.W.Fast.tw13534323240982660146 : Unit := ()
def PySem.W.Fast.tw11804909929020786699 : Unit := ()
def PySem.W.Fast.tw2753967699879882813 : Unit := ()
def PySem.W.Fast.tw12409978998173507386 : Unit := ()
def PySem.W.Fast.tw1049516803797416586 : Unit := ()
def PySem.W.Fast.tw5690151240302888149 : Unit := ()
def PySem.W.Fast.tw17368129921141874615 : Unit := ()
def PySem.W.Fast.tw4824468475234216197 : Unit := ()
def PySem.W.Fast.tw6014866528868279069 : Unit := ()
def PySem.W.Fast.tw6341347717245929663 : Unit := ()
def PySem.W.Fast.tw855353282550418678 : Unit := ()
def PySem.W.Fast.tw1338742436572697402 : Unit := ()
def PySem.W.Fast.tw6116867305164884797 : Unit := ()
def PySem.W.Fast.tw5898021354783259334 : Unit := ()
def PySem.W.Fast.tw7211532421693192286 : Unit := ()
def PySem.W.Fast.tw14325930545845691945 : Unit := ()
def PySem.W.Fast.tw3193764688427663463 : Unit := ()
def PySem.W.Fast.tw17343427337338889655 : Unit := ()
def PySem.W.Fast.tw12913203257548250023 : Unit := ()
def PySem.W.Fast.tw12009940258305911109 : Unit := ()
def PySem.W.Fast.tw4679103178974228274 : Unit := ()
def PySem.W.Fast.tw5072260003306088327 : Unit := ()
def PySem.W.Fast.tw1948064830838056345 : Unit := ()
def PySem.W.Fast.tw4780953226534368741 : Unit := ()
def PySem.W.Fast.tw5341489236458330302 : Unit := ()
def PySem.W.Fast.tw2254879017150087479 : Unit := ()
def PySem.W.Fast.tw18252719395854013729 : Unit := ()
def PySem.W.Fast.tw13065386323861803196 : Unit := ()
def PySem.W.Fast.tw4389202881596320222 : Unit := ()
def PySem.W.Fast.tw2892359691695067135 : Unit := ()
def PySem.W.Fast.tw7341085796536755750 : Unit := ()
def PySem.W.Fast.tw3012219875200037365 : Unit := ()
def PySem.W.Fast.tw12287370110650873334 : Unit := ()
def PySem.W.Fast.tw1429608602656576293 : Unit := ()
def PySem.W.Fast.tw13177210620500136578 : Unit := ()
def PySem.W.Fast.tw9239796703911837855 : Unit := ()
def PySem.W.Fast.tw16713618725721393116 : Unit := ()
def PySem.W.Fast.tw15769598133680735438 : Unit := ()
def PySem.W.Fast.tw3710117391084939782 : Unit := ()
def PySem.W.Fast.tw5474146425610351163 : Unit := ()
def PySem.W.Fast.tw2091969905750048599 : Unit := ()
def PySem.W.Fast.tw13702894018269288729 : Unit := ()
def PySem.W.Fast.tw12415806886940737437 : Unit := ()
def PySem.W.Fast.tw7187147528732033549 : Unit := ()
def PySem.W.Fast.tw14541394937029167948 : Unit := ()
def PySem.W.Fast.tw8552751535977367250 : Unit := ()
def PySem.W.Fast.tw7812835070105968191 : Unit := ()
def PySem.W.Fast.tw18237247219434164869 : Unit := ()
def PySem.W.Fast.tw3877039918079961589 : Unit := ()
def PySem.W.Fast.tw16540676673134582650 : Unit := ()
def PySem.W.Fast.tw17359204670932401031 : Unit := ()
def PySem.W.Fast.tw16473942951485210973 : Unit := ()
def PySem.W.Fast.tw15026683528512418665 : Unit := ()
def PySem.W.Fast.tw3636984111618647709 : Unit := ()
def PySem.W.Fast.tw15694072433258881139 : Unit := ()
def PySem.W.Fast.tw7588172029703177348 : Unit := ()
def PySem.W.Fast.tw4828279526228684139 : Unit := ()
def PySem.W.Fast.tw2830433006955807841 : Unit := ()
def PySem.W.Fast.tw118073777651042632 : Unit := ()
def PySem.W.Fast.tw17191602182693242691 : Unit := ()
def PySem.W.Fast.tw3484198859147994373 : Unit := ()
def PySem.W.Fast.tw1161174083940664207 : Unit := ()
def PySem.W.Fast.tw16684872596029271957 : Unit := ()
def PySem.W.Fast.tw6382724277242531123 : Unit := ()
def PySem.W.Fast.tw17326592073592637276 : Unit := ()
def PySem.W.Fast.tw113220810365939795 : Unit := ()
def PySem.W.Fast.tw8675348416985008892 : Unit := ()
def PySem.W.Fast.tw15945609281659107693 : Unit := ()
def PySem.W.Fast.tw5999149955777585678 : Unit := ()
def PySem.W.Fast.tw4911535000168529028 : Unit := ()
def PySem.W.Fast.tw11241107439828479684 : Unit := ()
def PySem.W.Fast.tw9172632678700994224 : Unit := ()
def PySem.W.Fast.tw9421472672366792909 : Unit := ()
def PySem.W.Fast.tw15480451790600304859 : Unit := ()
def PySem.W.Fast.tw18291806208504763305 : Unit := ()
def PySem.W.Fast.tw16118510501935713088 : Unit := ()
def PySem.W.Fast.tw5044133952999888539 : Unit := ()
def PySem.W.Fast.tw13439059964391811722 : Unit := ()
def PySem.W.Fast.tw13602920268464673627 : Unit := ()
def PySem.W.Fast.tw2345468862112950444 : Unit := ()
def PySem.W.Fast.tw13674106897384946873 : Unit := ()
def PySem.W.Fast.tw11853591698668501380 : Unit := ()
def PySem.W.Fast.tw11232636546860946573 : Unit := ()
def PySem.W.Fast.tw17239939541618263036 : Unit := ()
def PySem.W.Fast.tw466894086472131044 : Unit := ()
def PySem.W.Fast.tw4679986057920519436 : Unit := ()
def PySem.W.Fast.tw15721333447406396914 : Unit := ()
def PySem.W.Fast.tw4251751933621318803 : Unit := ()
def PySem.W.Fast.tw6354301481945402733 : Unit := ()
def PySem.W.Fast.tw14407458901292430154 : Unit := ()
def PySem.W.Fast.tw6629472225796762954 : Unit := ()
def PySem.W.Fast.tw18222138673707395754 : Unit := ()
def PySem.W.Fast.tw15260404266245908964 : Unit := ()
def PySem.W.Fast.tw2522705978379166112 : Unit := ()
def PySem.W.Fast.tw647909881587366136 : Unit := ()
def PySem.W.Fast.tw4456841357493851923 : Unit := ()
def PySem.W.Fast.tw16468339198760684825 : Unit := ()
def PySem.W.Fast.tw6446078925907720042 : Unit := ()
def PySem.W.Fast.tw9710366730548348261 : Unit := ()
def PySem.W.Fast.tw10060649651230558415 : Unit := ()
def PySem.W.Fast.tw14297206227580394502 : Unit := ()
def PySem.W.Fast.tw13207796972387366932 : Unit := ()
def PySem.W.Fast.tw7355047746471768728 : Unit := ()
def PySem.W.Fast.tw6473525537113198239 : Unit := ()
def PySem.W.Fast.tw10358027064755950544 : Unit := ()
def PySem.W.Fast.tw4041298153889541867 : Unit := ()
def PySem.W.Fast.tw9165710382137857008 : Unit := ()
def PySem.W.Fast.tw9571807858513715129 : Unit := ()
def PySem.W.Fast.tw8782137807928266610 : Unit := ()
def PySem.W.Fast.tw11985865695800632341 : Unit := ()
def PySem.W.Fast.tw17815219862165410017 : Unit := ()
def PySem.W.Fast.tw10305627274625650583 : Unit := ()
def PySem.W.Fast.tw17144377363632552483 : Unit := ()
def PySem.W.Fast.tw4645644666345834344 : Unit := ()
def PySem.W.Fast.tw11003825342975108735 : Unit := ()
def PySem.W.Fast.tw15953315585414974138 : Unit := ()
def PySem.W.Fast.tw5164359453614283473 : Unit := ()
def PySem.W.Fast.tw16760731041802996427 : Unit := ()
def PySem.W.Fast.tw15917759691616771626 : Unit := ()
def PySem.W.Fast.tw10954117329929422128 : Unit := ()
def PySem.W.Fast.tw14154555827884052478 : Unit := ()
def PySem.W.Fast.tw12917852765491693264 : Unit := ()
def PySem.W.Fast.tw7132355007494141992 : Unit := ()
def PySem.W.Fast.tw9671221132786310241 : Unit := ()
def PySem.W.Fast.tw13942889317435371267 : Unit := ()
def PySem.W.Fast.tw7160178472586308186 : Unit := ()
def PySem.W.Fast.tw16172611179898426431 : Unit := ()
def PySem.W.Fast.tw1277679656052903097 : Unit := ()
def PySem.W.Fast.tw17827488819738345744 : Unit := ()
def PySem.W.Fast.tw2576959937219278634 : Unit := ()
def PySem.W.Fast.tw11978355869128553279 : Unit := ()
def PySem.W.Fast.tw564199761141865682 : Unit := ()
def PySem.W.Fast.tw14879849098334990560 : Unit := ()
def PySem.W.Fast.tw14736113138460113326 : Unit := ()
def PySem.W.Fast.tw7962951778305488744 : Unit := ()
def PySem.W.Fast.tw10499324619865946411 : Unit := ()
def PySem.W.Fast.tw8856521053681148910 : Unit := ()
def PySem.W.Fast.tw3182153779884432785 : Unit := ()
def PySem.W.Fast.tw15745417676507261881 : Unit := ()
def PySem.W.Fast.tw4005974381351527566 : Unit := ()
def PySem.W.Fast.tw12205516401841680040 : Unit := ()
def PySem.W.Fast.tw14168392215983088857 : Unit := ()
def PySem.W.Fast.tw14287592049307659061 : Unit := ()
def PySem.W.Fast.tw11105000617945616770 : Unit := ()
def PySem.W.Fast.tw2654966227633194181 : Unit := ()
def PySem.W.Fast.tw2687485929034124117 : Unit := ()
def PySem.W.Fast.tw9907176085028450146 : Unit := ()
def PySem.W.Fast.tw9724276403315418920 : Unit := ()
def PySem.W.Fast.tw6156057510371117047 : Unit := ()
def PySem.W.Fast.tw4880404110553935822 : Unit := ()
def PySem.W.Fast.tw8141557488220835505 : Unit := ()
def PySem.W.Fast.tw5658061447839258440 : Unit := ()
def PySem.W.Fast.tw2097291585603882970 : Unit := ()
def PySem.W.Fast.tw5168250831493629348 : Unit := ()
def PySem.W.Fast.tw11216943507184309529 : Unit := ()
def PySem.W.Fast.tw4928804263159339386 : Unit := ()
def PySem.W.Fast.tw6143154886641097880 : Unit := ()
def PySem.W.Fast.tw11279071281376925158 : Unit := ()
def PySem.W.Fast.tw8528016199537593730 : Unit := ()
def PySem.W.Fast.tw11516020008703821455 : Unit := ()
def PySem.W.Fast.tw1389308366054311756 : Unit := ()
def PySem.W.Fast.tw15838728755525787073 : Unit := ()
def PySem.W.Fast.tw11413253032391865746 : Unit := ()
def PySem.W.Fast.tw15395330983265974348 : Unit := ()
def PySem.W.Fast.tw11596540136649175724 : Unit := ()
def PySem.W.Fast.tw11579225197753554165 : Unit := ()
def PySem.W.Fast.tw18010722244444888854 : Unit := ()
def PySem.W.Fast.tw8430150775421002055 : Unit := ()
def PySem.W.Fast.tw15610320003441247309 : Unit := ()
def PySem.W.Fast.tw8837939534005144771 : Unit := ()
def PySem.W.Fast.tw13963251745286946376 : Unit := ()
def PySem.W.Fast.tw2279693142979649582 : Unit := ()
def PySem.W.Fast.tw15717510608146020874 : Unit := ()
def PySem.W.Fast.tw9366226352701254639 : Unit := ()
def PySem.W.Fast.tw13807757883337578648 : Unit := ()
def PySem.W.Fast.tw11005158385710628696 : Unit := ()
def PySem.W.Fast.tw9851386974351810035 : Unit := ()
def PySem.W.Fast.tw6845096003892372837 : Unit := ()
def PySem.W.Fast.tw17954279363980339191 : Unit := ()
def PySem.W.Fast.tw15842475051541300739 : Unit := ()
def PySem.W.Fast.tw1067894195572737562 : Unit := ()
def PySem.W.Fast.tw18256279177347339319 : Unit := ()
def PySem.W.Fast.tw4071895035437096521 : Unit := ()
def PySem.W.Fast.tw10019092812305520576 : Unit := ()
def PySem.W.Fast.tw555815205419706094 : Unit := ()
def PySem.W.Fast.tw4318595975461162146 : Unit := ()
def PySem.W.Fast.tw3556021737157011548 : Unit := ()
def PySem.W.Fast.tw6169226559740316560 : Unit := ()
def PySem.W.Fast.tw14568784078736494414 : Unit := ()
def PySem.W.Fast.tw7989793502838995660 : Unit := ()
def PySem.W.Fast.tw955141067083649356 : Unit := ()
def PySem.W.Fast.tw16967720026225728084 : Unit := ()
def PySem.W.Fast.tw12385866036247200074 : Unit := ()
def PySem.W.Fast.tw17035690065399397668 : Unit := ()
def PySem.W.Fast.tw13404377221336438377 : Unit := ()
def PySem.W.Fast.tw1738786877791141781 : Unit := ()
def PySem.W.Fast.tw2723443917122546142 : Unit := ()
def PySem.W.Fast.tw4430264104799857298 : Unit := ()
def PySem.W.Fast.tw12336599853190561571 : Unit := ()
def PySem.W.Fast.tw15272290922680905493 : Unit := ()
def PySem.W.Fast.tw9220824664224693931 : Unit := ()
def PySem.W.Fast.tw7748735267774529491 : Unit := ()
def PySem.W.Fast.tw5784272737623069452 : Unit := ()
def PySem.W.Fast.tw6854757323888466496 : Unit := ()
def PySem.W.Fast.tw6219111727591693712 : Unit := ()
def PySem.W.Fast.tw2470675040025240753 : Unit := ()
def PySem.W.Fast.tw7015536738976179857 : Unit := ()
def PySem.W.Fast.tw13325994318958505352 : Unit := ()
def PySem.W.Fast.tw2655719371331274682 : Unit := ()
def PySem.W.Fast.tw2637910110943066375 : Unit := ()
def PySem.W.Fast.tw12908695295250161679 : Unit := ()
def PySem.W.Fast.tw1008977311786328029 : Unit := ()
def PySem.W.Fast.tw6592143940873839785 : Unit := ()
def PySem.W.Fast.tw9913125616671113530 : Unit := ()
def PySem.W.Fast.tw2001416620068930281 : Unit := ()
def PySem.W.Fast.tw5611224663937673284 : Unit := ()
def PySem.W.Fast.tw4949480089213765973 : Unit := ()
def PySem.W.Fast.tw2942556313619646 : Unit := ()
def PySem.W.Fast.tw17320814655046054536 : Unit := ()
def PySem.W.Fast.tw15726014370356623082 : Unit := ()
def PySem.W.Fast.tw11795430792236013969 : Unit := ()
def PySem.W.Fast.tw3850952179037648638 : Unit := ()
def PySem.W.Fast.tw8325430341285411418 : Unit := ()
def PySem.W.Fast.tw803319500316039040 : Unit := ()
def PySem.W.Fast.tw7675442817012622961 : Unit := ()
def PySem.W.Fast.tw12775187565660683545 : Unit := ()
def PySem.W.Fast.tw4302292057919704411 : Unit := ()
def PySem.W.Fast.tw3055721585235264006 : Unit := ()
def PySem.W.Fast.tw4922008131968885146 : Unit := ()
def PySem.W.Fast.tw4903284010111474845 : Unit := ()
def PySem.W.Fast.tw10509894126770797625 : Unit := ()
def PySem.W.Fast.tw8524431666639690351 : Unit := ()
def PySem.W.Fast.tw18132669179408915314 : Unit := ()
def PySem.W.Fast.tw8302175059499854768 : Unit := ()
def PySem.W.Fast.tw5023138757169194456 : Unit := ()
def PySem.W.Fast.tw13958840333588950866 : Unit := ()
def PySem.W.Fast.tw14876167242587128031 : Unit := ()
def PySem.W.Fast.tw1142257117388562779 : Unit := ()
def PySem.W.Fast.tw15931348062851899833 : Unit := ()
def PySem.W.Fast.tw12565051015868564895 : Unit := ()
def PySem.W.Fast.tw13889013520126743713 : Unit := ()
def PySem.W.Fast.tw4661595725119446743 : Unit := ()
def PySem.W.Fast.tw6350127069980069006 : Unit := ()
def PySem.W.Fast.tw11094549090846159673 : Unit := ()
def PySem.W.Fast.tw5910154082405842079 : Unit := ()
def PySem.W.Fast.tw11301830035634966385 : Unit := ()
def PySem.W.Fast.tw8101614516116393825 : Unit := ()
def PySem.W.Fast.tw3422534695941029095 : Unit := ()
def PySem.W.Fast.tw16902127082953426766 : Unit := ()
def PySem.W.Fast.tw11643029736899708962 : Unit := ()
def PySem.W.Fast.tw2943946463059251999 : Unit := ()
def PySem.W.Fast.tw7002584430623324604 : Unit := ()
def PySem.W.Fast.tw18180839749405686799 : Unit := ()
def PySem.W.Fast.tw7694147522174404415 : Unit := ()
def PySem.W.Fast.tw10085005092299516477 : Unit := ()
def PySem.W.Fast.tw9995883615281410371 : Unit := ()
def PySem.W.Fast.tw16186535500010417143 : Unit := ()
def PySem.W.Fast.tw7884941218429807902 : Unit := ()
def PySem.W.Fast.tw9011968069822872656 : Unit := ()
def PySem.W.Fast.tw13402029515922124363 : Unit := ()
def PySem.W.Fast.tw9980562513017431450 : Unit := ()
def PySem.W.Fast.tw12336164499246413914 : Unit := ()
def PySem.W.Fast.tw12603440476150228981 : Unit := ()
def PySem.W.Fast.tw10595081631119819826 : Unit := ()
def PySem.W.Fast.tw16634937879931425033 : Unit := ()
def PySem.W.Fast.tw12686745686278002713 : Unit := ()
def PySem.W.Fast.tw1373461363949533897 : Unit := ()
def PySem.W.Fast.tw5506927295746380660 : Unit := ()
def PySem.W.Fast.tw12520252814182185063 : Unit := ()
def PySem.W.Fast.tw1343625831141782977 : Unit := ()
def PySem.W.Fast.tw7974660379971943483 : Unit := ()
def PySem.W.Fast.tw14697812521866808093 : Unit := ()
def PySem.W.Fast.tw3732968689286349539 : Unit := ()
def PySem.W.Fast.tw2414545967524461396 : Unit := ()
def PySem.W.Fast.tw474448034229505773 : Unit := ()
def PySem.W.Fast.tw6642908200201871438 : Unit := ()
def PySem.W.Fast.tw6797598524853969670 : Unit := ()
def PySem.W.Fast.tw13651591947157214139 : Unit := ()
def PySem.W.Fast.tw10675800618683292490 : Unit := ()
def PySem.W.Fast.tw9216064597463221288 : Unit := ()
def PySem.W.Fast.tw14007728191835998542 : Unit := ()
def PySem.W.Fast.tw5802089959273921933 : Unit := ()
def PySem.W.Fast.tw5789516393652501719 : Unit := ()
def PySem.W.Fast.tw15433510102505472225 : Unit := ()
def PySem.W.Fast.tw4693186370841579270 : Unit := ()
def PySem.W.Fast.tw14588790914557473230 : Unit := ()
def PySem.W.Fast.tw932117166914986994 : Unit := ()
def PySem.W.Fast.tw3379405036454554534 : Unit := ()
def PySem.W.Fast.tw1664634779743409106 : Unit := ()
def PySem.W.Fast.tw14911442641446562729 : Unit := ()
def PySem.W.Fast.tw4313440342578942774 : Unit := ()
def PySem.W.Fast.tw6070171851473056044 : Unit := ()
def PySem.W.Fast.tw7453618219624131705 : Unit := ()
def PySem.W.Fast.tw7832058935623586418 : Unit := ()
def PySem.W.Fast.tw6432130507495610368 : Unit := ()
def PySem.W.Fast.tw18008077772122323956 : Unit := ()
def PySem.W.Fast.tw5091253347235759165 : Unit := ()
def PySem.W.Fast.tw11536928495759873777 : Unit := ()
def PySem.W.Fast.tw5973797774302686867 : Unit := ()
def PySem.W.Fast.tw17488924371514427873 : Unit := ()
def PySem.W.Fast.tw5956945645426557795 : Unit := ()
def PySem.W.Fast.tw12047458677804502659 : Unit := ()
def PySem.W.Fast.tw1899835289785147991 : Unit := ()
def PySem.W.Fast.tw6483524982212100304 : Unit := ()
def PySem.W.Fast.tw1745497730398926981 : Unit := ()
def PySem.W.Fast.tw15190401115508258673 : Unit := ()
def PySem.W.Fast.tw9227393160553058252 : Unit := ()
def PySem.W.Fast.tw7931634089354217445 : Unit := ()
def PySem.W.Fast.tw13821563295028808033 : Unit := ()
def PySem.W.Fast.tw13945648915939654869 : Unit := ()
def PySem.W.Fast.tw8781431239170542813 : Unit := ()
def PySem.W.Fast.tw2757329498922153702 : Unit := ()
def PySem.W.Fast.tw3944140486876220049 : Unit := ()
def PySem.W.Fast.tw15892958202746998177 : Unit := ()
def PySem.W.Fast.tw13212948866933305100 : Unit := ()
def PySem.W.Fast.tw4642483406541604485 : Unit := ()
def PySem.W.Fast.tw3947151852710332614 : Unit := ()
def PySem.W.Fast.tw5923970807788978611 : Unit := ()
def PySem.W.Fast.tw16556345556735641001 : Unit := ()
def PySem.W.Fast.tw16085281400684716278 : Unit := ()
def PySem.W.Fast.tw13877820759827414667 : Unit := ()
def PySem.W.Fast.tw4338379733504923359 : Unit := ()
def PySem.W.Fast.tw10246085630898329295 : Unit := ()
def PySem.W.Fast.tw16100707429114103317 : Unit := ()
def PySem.W.Fast.tw8189092343733003500 : Unit := ()
def PySem.W.Fast.tw8242576855668596663 : Unit := ()
def PySem.W.Fast.tw15958091936723528990 : Unit := ()
def PySem.W.Fast.tw10494357842536634599 : Unit := ()
def PySem.W.Fast.tw5842018015596085525 : Unit := ()
def PySem.W.Fast.tw1299300530177972245 : Unit := ()
def PySem.W.Fast.tw646284188400307584 : Unit := ()
def PySem.W.Fast.tw16276067167516770260 : Unit := ()
def PySem.W.Fast.tw1034882206362112440 : Unit := ()
def PySem.W.Fast.tw16599137323593614464 : Unit := ()
def PySem.W.Fast.tw10694464904177359540 : Unit := ()
def PySem.W.Fast.tw3238709513670164297 : Unit := ()
def PySem.W.Fast.tw17232929951685726766 : Unit := ()
def PySem.W.Fast.tw1548508921036742147 : Unit := ()
def PySem.W.Fast.tw3629777665372043596 : Unit := ()
def PySem.W.Fast.tw2692919759285374597 : Unit := ()
def PySem.W.Fast.tw5462935940664368558 : Unit := ()
def PySem.W.Fast.tw444574058946952685 : Unit := ()
def PySem.W.Fast.tw5578032414670188562 : Unit := ()
def PySem.W.Fast.tw13130399449267852814 : Unit := ()
def PySem.W.Fast.tw17865347889721875140 : Unit := ()
def PySem.W.Fast.tw8459475220634439759 : Unit := ()
def PySem.W.Fast.tw4648574877314470844 : Unit := ()
def PySem.W.Fast.tw17067323816424449350 : Unit := ()
def PySem.W.Fast.tw11959404611015887039 : Unit := ()
def PySem.W.Fast.tw12244431914943935379 : Unit := ()
def PySem.W.Fast.tw15888541957086395248 : Unit := ()
def PySem.W.Fast.tw1411070066644361077 : Unit := ()
def PySem.W.Fast.tw6977459334822259039 : Unit := ()
def PySem.W.Fast.tw8972511302495744918 : Unit := ()
def PySem.W.Fast.tw7357376593203236818 : Unit := ()
def PySem.W.Fast.tw2627456156678884031 : Unit := ()
def PySem.W.Fast.tw14768808969923558386 : Unit := ()
def PySem.W.Fast.tw17030674160206403777 : Unit := ()
def PySem.W.Fast.tw18135442730380228565 : Unit := ()
def PySem.W.Fast.tw4577716853572301475 : Unit := ()
def PySem.W.Fast.tw2504227425884172176 : Unit := ()
def PySem.W.Fast.tw7568693407773555538 : Unit := ()
def PySem.W.Fast.tw17754871312968201875 : Unit := ()
def PySem.W.Fast.tw10965855087229600600 : Unit := ()
def PySem.W.Fast.tw8263029015487445606 : Unit := ()
def PySem.W.Fast.tw11543683412669703817 : Unit := ()
def PySem.W.Fast.tw14913243780149812441 : Unit := ()
def PySem.W.Fast.tw12769328590045251948 : Unit := ()
def PySem.W.Fast.tw790882533640466410 : Unit := ()
def PySem.W.Fast.tw17693983733753217692 : Unit := ()
def PySem.W.Fast.tw12152501178697287686 : Unit := ()
def PySem.W.Fast.tw11339323798905504546 : Unit := ()
def PySem.W.Fast.tw4613370294480413333 : Unit := ()
def PySem.W.Fast.tw4680573376889752015 : Unit := ()
def PySem.W.Fast.tw16748867343136410323 : Unit := ()
def PySem.W.Fast.tw22374725916548364 : Unit := ()
def PySem.W.Fast.tw687915343592521010 : Unit := ()
def PySem.W.Fast.tw17098846108692689793 : Unit := ()
def PySem.W.Fast.tw16273370536631570450 : Unit := ()
def PySem.W.Fast.tw18419897469500659151 : Unit := ()
def PySem.W.Fast.tw6101578252319777193 : Unit := ()
def PySem.W.Fast.tw6558404285989870634 : Unit := ()
def PySem.W.Fast.tw8753239753317063055 : Unit := ()
def PySem.W.Fast.tw4534961426844307574 : Unit := ()
def PySem.W.Fast.tw3086185932251756743 : Unit := ()
def PySem.W.Fast.tw14788376991273391354 : Unit := ()
def PySem.W.Fast.tw13089591947960642376 : Unit := ()
def PySem.W.Fast.tw7228568644631293799 : Unit := ()
def PySem.W.Fast.tw13980956985473733685 : Unit := ()
def PySem.W.Fast.tw1221423695292886292 : Unit := ()
def PySem.W.Fast.tw7802002708588545884 : Unit := ()
def PySem.W.Fast.tw722132201584633897 : Unit := ()
def PySem.W.Fast.tw14519064357436660170 : Unit := ()
def PySem.W.Fast.tw16912394787720958492 : Unit := ()
def PySem.W.Fast.tw16207730177459116968 : Unit := ()
def PySem.W.Fast.tw9711296425749323982 : Unit := ()
def PySem.W.Fast.tw8911780380691311307 : Unit := ()
def PySem.W.Fast.tw8383246761184908629 : Unit := ()
def PySem.W.Fast.tw7573494028578434086 : Unit := ()
def PySem.W.Fast.tw15038346687854318139 : Unit := ()
def PySem.W.Fast.tw15627789680913263715 : Unit := ()
def PySem.W.Fast.tw10170582457663258364 : Unit := ()
def PySem.W.Fast.tw2589042804133456343 : Unit := ()
def PySem.W.Fast.tw13884487828092064831 : Unit := ()
def PySem.W.Fast.tw1933471630279119193 : Unit := ()
def PySem.W.Fast.tw11160112454928766428 : Unit := ()
def PySem.W.Fast.tw4553094506463187827 : Unit := ()
def PySem.W.Fast.tw47159086747435956 : Unit := ()
def PySem.W.Fast.tw2156619950486010250 : Unit := ()
def PySem.W.Fast.tw2775783531987516716 : Unit := ()
def PySem.W.Fast.tw11125364885283072914 : Unit := ()
def PySem.W.Fast.tw11007762443762262266 : Unit := ()
def PySem.W.Fast.tw1444316930005925664 : Unit := ()
def PySem.W.Fast.tw220007647940861522 : Unit := ()
def PySem.W.Fast.tw16528213379547704904 : Unit := ()
def PySem.W.Fast.tw17576108299177502043 : Unit := ()
def PySem.W.Fast.tw496673396125571679 : Unit := ()
def PySem.W.Fast.tw6521331689408654673 : Unit := ()
def PySem.W.Fast.tw14199863548905733727 : Unit := ()
def PySem.W.Fast.tw2581700159790024434 : Unit := ()
def PySem.W.Fast.tw17224945153092405469 : Unit := ()
def PySem.W.Fast.tw16513807907268640910 : Unit := ()
def PySem.W.Fast.tw8303406246040754867 : Unit := ()
def PySem.W.Fast.tw4348869434460921881 : Unit := ()
def PySem.W.Fast.tw14501442040920213951 : Unit := ()
def PySem.W.Fast.tw8699183537935819751 : Unit := ()
def PySem.W.Fast.tw12366021644369678570 : Unit := ()
def PySem.W.Fast.tw13734005196855320623 : Unit := ()
def PySem.W.Fast.tw10647030677741671137 : Unit := ()
def PySem.W.Fast.tw11962465625072220993 : Unit := ()
def PySem.W.Fast.tw9381004208594844575 : Unit := ()
def PySem.W.Fast.tw9693108550963045742 : Unit := ()
def PySem.W.Fast.tw13491185507381688475 : Unit := ()
def PySem.W.Fast.tw58717217732713378 : Unit := ()
def PySem.W.Fast.tw17135818376044525853 : Unit := ()
def PySem.W.Fast.tw8844726452756158831 : Unit := ()
def PySem.W.Fast.tw7725539361757921332 : Unit := ()
def PySem.W.Fast.tw16859951092891307473 : Unit := ()
def PySem.W.Fast.tw14269320262892414973 : Unit := ()
def PySem.W.Fast.tw2050525343840565197 : Unit := ()
def PySem.W.Fast.tw3805497355796153376 : Unit := ()
def PySem.W.Fast.tw9565196184664693548 : Unit := ()
def PySem.W.Fast.tw16668421473665445198 : Unit := ()
def PySem.W.Fast.tw14703973919563044154 : Unit := ()
def PySem.W.Fast.tw13409750767901948885 : Unit := ()
def PySem.W.Fast.tw17377938689675734995 : Unit := ()
def PySem.W.Fast.tw11359056516926862299 : Unit := ()
def PySem.W.Fast.tw6765819780887014020 : Unit := ()
def PySem.W.Fast.tw5334360918999762593 : Unit := ()
def PySem.W.Fast.tw16111545716709551160 : Unit := ()
def PySem.W.Fast.tw5166337895171307741 : Unit := ()
def PySem.W.Fast.tw1257597391861340648 : Unit := ()
def PySem.W.Fast.tw2196611068999700866 : Unit := ()
def PySem.W.Fast.tw10721994412562517552 : Unit := ()
def PySem.W.Fast.tw1859503340330598099 : Unit := ()
def PySem.W.Fast.tw17032266492315765257 : Unit := ()
def PySem.W.Fast.tw14672007222383426977 : Unit := ()
def PySem.W.Fast.tw11100097736949908433 : Unit := ()
def PySem.W.Fast.tw11944364074250145742 : Unit := ()
def PySem.W.Fast.tw5045252373938813390 : Unit := ()
def PySem.W.Fast.tw3817605644399894434 : Unit := ()
def PySem.W.Fast.tw11256119664329067446 : Unit := ()
def PySem.W.Fast.tw6583200662077080653 : Unit := ()
def PySem.W.Fast.tw15601447668387296216 : Unit := ()
def PySem.W.Fast.tw16616911395035130624 : Unit := ()
def PySem.W.Fast.tw18360274813135315537 : Unit := ()
def PySem.W.Fast.tw17365292407348965333 : Unit := ()
def PySem.W.Fast.tw16184474924060951523 : Unit := ()
def PySem.W.Fast.tw7061501285420531258 : Unit := ()
def PySem.W.Fast.tw5931543978165413549 : Unit := ()
def PySem.W.Fast.tw7627708194414977385 : Unit := ()
def PySem.W.Fast.tw15632707805730131656 : Unit := ()
def PySem.W.Fast.tw4277216599405484191 : Unit := ()
def PySem.W.Fast.tw11426306644478958140 : Unit := ()
def PySem.W.Fast.tw11862567714315965954 : Unit := ()
def PySem.W.Fast.tw18175258092154667955 : Unit := ()
def PySem.W.Fast.tw9206167423130947451 : Unit := ()
def PySem.W.Fast.tw4384837609679325477 : Unit := ()
def PySem.W.Fast.tw10683424411815761967 : Unit := ()
def PySem.W.Fast.tw867834220536603969 : Unit := ()
def PySem.W.Fast.tw1422615913247065245 : Unit := ()
def PySem.W.Fast.tw1808018951954411906 : Unit := ()
def PySem.W.Fast.tw3888146765021189461 : Unit := ()
def PySem.W.Fast.tw3900581354865619697 : Unit := ()
def PySem.W.Fast.tw1860098429313290185 : Unit := ()
def PySem.W.Fast.tw440136919148859591 : Unit := ()
def PySem.W.Fast.tw5589449492458214199 : Unit := ()
def PySem.W.Fast.tw10902485330308484078 : Unit := ()
def PySem.W.Fast.tw15003756888540114406 : Unit := ()
def PySem.W.Fast.tw7009633946047637762 : Unit := ()
def PySem.W.Fast.tw16515163791189775156 : Unit := ()
def PySem.W.Fast.tw2749659174708338384 : Unit := ()
def PySem.W.Fast.tw3175798701028723997 : Unit := ()
def PySem.W.Fast.tw519150336308904869 : Unit := ()
def PySem.W.Fast.tw11968984130971351040 : Unit := ()
def PySem.W.Fast.tw1354924761180894192 : Unit := ()
def PySem.W.Fast.tw6952165630998609311 : Unit := ()
def PySem.W.Fast.tw4732310955243941160 : Unit := ()
def PySem.W.Fast.tw2392786353801758624 : Unit := ()
def PySem.W.Fast.tw489087859851807503 : Unit := ()
def PySem.W.Fast.tw9208413625991829224 : Unit := ()
def PySem.W.Fast.tw12184164915656261887 : Unit := ()
def PySem.W.Fast.tw17658075401465722248 : Unit := ()
def PySem.W.Fast.tw14528439670836063948 : Unit := ()
def PySem.W.Fast.tw16956140840519990882 : Unit := ()
def PySem.W.Fast.tw14002486379346740777 : Unit := ()
def PySem.W.Fast.tw12522296782423516246 : Unit := ()
def PySem.W.Fast.tw12535235866497374524 : Unit := ()
def PySem.W.Fast.tw11403642339034238325 : Unit := ()
def PySem.W.Fast.tw14241268825633498789 : Unit := ()
def PySem.W.Fast.tw703270508699699312 : Unit := ()
def PySem.W.Fast.tw10003744886143783516 : Unit := ()
def PySem.W.Fast.tw9534547474373103581 : Unit := ()
def PySem.W.Fast.tw17646893922513428425 : Unit := ()
def PySem.W.Fast.tw318920000119909885 : Unit := ()
def PySem.W.Fast.tw6282369040635313794 : Unit := ()
def PySem.W.Fast.tw34531222830999277 : Unit := ()
def PySem.W.Fast.tw6340644864218648949 : Unit := ()
def PySem.W.Fast.tw3486065369582307116 : Unit := ()
def PySem.W.Fast.tw12350003753766992749 : Unit := ()
def PySem.W.Fast.tw9333895210396381200 : Unit := ()
def PySem.W.Fast.tw16839751065938489838 : Unit := ()
def PySem.W.Fast.tw9881632407526936136 : Unit := ()
def PySem.W.Fast.tw6103826121863280298 : Unit := ()
def PySem.W.Fast.tw13082195986983276281 : Unit := ()
def PySem.W.Fast.tw15926451951844374098 : Unit := ()
def PySem.W.Fast.tw16112761190574622215 : Unit := ()
def PySem.W.Fast.tw12178653327833011914 : Unit := ()
def PySem.W.Fast.tw4348042322908005692 : Unit := ()
def PySem.W.Fast.tw13952758702774281696 : Unit := ()
def PySem.W.Fast.tw14398771949673251129 : Unit := ()
def PySem.W.Fast.tw8974644035468609742 : Unit := ()
def PySem.W.Fast.tw16004589284007965136 : Unit := ()
def PySem.W.Fast.tw14520943921025783040 : Unit := ()
def PySem.W.Fast.tw7074651980896213539 : Unit := ()
def PySem.W.Fast.tw16048241521821883327 : Unit := ()
def PySem.W.Fast.tw4216272434944060408 : Unit := ()
def PySem.W.Fast.tw3550536200797786643 : Unit := ()
def PySem.W.Fast.tw18102935553209256465 : Unit := ()
def PySem.W.Fast.tw1867788138636090022 : Unit := ()
def PySem.W.Fast.tw16391548217511160669 : Unit := ()
def PySem.W.Fast.tw3688655733992595813 : Unit := ()
def PySem.W.Fast.tw6688465389246630064 : Unit := ()
def PySem.W.Fast.tw18107098092594273143 : Unit := ()
def PySem.W.Fast.tw4768067032513987548 : Unit := ()
def PySem.W.Fast.tw6472836265200463661 : Unit := ()
def PySem.W.Fast.tw16889137226849325483 : Unit := ()
def PySem.W.Fast.tw17744497226645672427 : Unit := ()
def PySem.W.Fast.tw11779442050869994764 : Unit := ()
def PySem.W.Fast.tw1891592840749287224 : Unit := ()
def PySem.W.Fast.tw2070866752443120569 : Unit := ()
def PySem.W.Fast.tw12795471273572507956 : Unit := ()
def PySem.W.Fast.tw5923063892434830957 : Unit := ()
def PySem.W.Fast.tw4232079316909453845 : Unit := ()
def PySem.W.Fast.tw10516721002658221946 : Unit := ()
def PySem.W.Fast.tw13803743023105351623 : Unit := ()
def PySem.W.Fast.tw4512254724800875243 : Unit := ()
def PySem.W.Fast.tw5175853264445000078 : Unit := ()
def PySem.W.Fast.tw10348092798281617056 : Unit := ()
def PySem.W.Fast.tw935871880462962092 : Unit := ()
def PySem.W.Fast.tw7386572583231234850 : Unit := ()
def PySem.W.Fast.tw6278500325944575890 : Unit := ()
def PySem.W.Fast.tw4051686356204252113 : Unit := ()
def PySem.W.Fast.tw4791575020453923942 : Unit := ()
def PySem.W.Fast.tw4016944287424046121 : Unit := ()
def PySem.W.Fast.tw16541110050001693290 : Unit := ()
def PySem.W.Fast.tw4610667851272433894 : Unit := ()
def PySem.W.Fast.tw1333534235464850928 : Unit := ()
def PySem.W.Fast.tw16344110428961222500 : Unit := ()
def PySem.W.Fast.tw14967793564855780663 : Unit := ()
def PySem.W.Fast.tw12192859578653170105 : Unit := ()
def PySem.W.Fast.tw4457460589157229734 : Unit := ()
def PySem.W.Fast.tw15179688389868280688 : Unit := ()
def PySem.W.Fast.tw15404580106762813798 : Unit := ()
def PySem.W.Fast.tw14179165388243496601 : Unit := ()
def PySem.W.Fast.tw12073629597671714148 : Unit := ()
def PySem.W.Fast.tw2778522456352167418 : Unit := ()
def PySem.W.Fast.tw16835708370610375828 : Unit := ()
def PySem.W.Fast.tw9109424779652002388 : Unit := ()
def PySem.W.Fast.tw11098956948647312408 : Unit := ()
def PySem.W.Fast.tw5720098828295948293 : Unit := ()
def PySem.W.Fast.tw13325310466094320419 : Unit := ()
def PySem.W.Fast.tw1871335326520294998 : Unit := ()
def PySem.W.Fast.tw11329942144207553552 : Unit := ()
def PySem.W.Fast.tw7317637749208796298 : Unit := ()
def PySem.W.Fast.tw7538208888659517030 : Unit := ()
def PySem.W.Fast.tw17619012490245152357 : Unit := ()
def PySem.W.Fast.tw5528372786792590629 : Unit := ()
def PySem.W.Fast.tw3647525112467868127 : Unit := ()
def PySem.W.Fast.tw2699265831806929597 : Unit := ()
def PySem.W.Fast.tw3221342055267059378 : Unit := ()
def PySem.W.Fast.tw367927816336856718 : Unit := ()
def PySem.W.Fast.tw17198388300896697653 : Unit := ()
def PySem.W.Fast.tw15822390308473535994 : Unit := ()
def PySem.W.Fast.tw1622327662471765794 : Unit := ()
def PySem.W.Fast.tw6871636180062304305 : Unit := ()
def PySem.W.Fast.tw5818950291176427487 : Unit := ()
def PySem.W.Fast.tw18249173901521279750 : Unit := ()
def PySem.W.Fast.tw13427430666781560564 : Unit := ()
def PySem.W.Fast.tw7065764212373129451 : Unit := ()
def PySem.W.Fast.tw7950145299730649527 : Unit := ()
def PySem.W.Fast.tw5866261608045936922 : Unit := ()
def PySem.W.Fast.tw9284972105734019932 : Unit := ()
def PySem.W.Fast.tw4852499731175970319 : Unit := ()
def PySem.W.Fast.tw10717766943443398984 : Unit := ()
def PySem.W.Fast.tw15025312301757791074 : Unit := ()
def PySem.W.Fast.tw17945470381329498607 : Unit := ()
def PySem.W.Fast.tw12846776088739150172 : Unit := ()
def PySem.W.Fast.tw18415532186338684064 : Unit := ()
def PySem.W.Fast.tw17503382817222968237 : Unit := ()
def PySem.W.Fast.tw426970379351043733 : Unit := ()
def PySem.W.Fast.tw10287999831129376217 : Unit := ()
def PySem.W.Fast.tw4424666210456327441 : Unit := ()
def PySem.W.Fast.tw5338256843058721899 : Unit := ()
def PySem.W.Fast.tw12530030943734844932 : Unit := ()
def PySem.W.Fast.tw10556790461918239833 : Unit := ()
def PySem.W.Fast.tw11681851784056099816 : Unit := ()
def PySem.W.Fast.tw12946257742141881179 : Unit := ()
def PySem.W.Fast.tw14842509667651367305 : Unit := ()
def PySem.W.Fast.tw10761056832492154081 : Unit := ()
def PySem.W.Fast.tw1554618168434669344 : Unit := ()
def PySem.W.Fast.tw12264144155420066027 : Unit := ()
def PySem.W.Fast.tw6229263685387306151 : Unit := ()
def PySem.W.Fast.tw15129071977555991229 : Unit := ()
def PySem.W.Fast.tw5379421059446543609 : Unit := ()
def PySem.W.Fast.tw13921229989866328271 : Unit := ()
def PySem.W.Fast.tw15909101941160796335 : Unit := ()
def PySem.W.Fast.tw3856636364303695836 : Unit := ()
def PySem.W.Fast.tw9061518959781599867 : Unit := ()
def PySem.W.Fast.tw6174651980714089941 : Unit := ()
def PySem.W.Fast.tw15707572199906216072 : Unit := ()
def PySem.W.Fast.tw5377622458583320492 : Unit := ()
def PySem.W.Fast.tw2343177499504670845 : Unit := ()
def PySem.W.Fast.tw5992041146574213821 : Unit := ()
def PySem.W.Fast.tw15688779209402513171 : Unit := ()
def PySem.W.Fast.tw16401384486171481114 : Unit := ()
def PySem.W.Fast.tw14172733331571487522 : Unit := ()
def PySem.W.Fast.tw9014414639271513027 : Unit := ()
def PySem.W.Fast.tw3639777038273038008 : Unit := ()
def PySem.W.Fast.tw4422113396382347719 : Unit := ()
def PySem.W.Fast.tw7911867665620335817 : Unit := ()
def PySem.W.Fast.tw8992021415994111924 : Unit := ()
def PySem.W.Fast.tw4876966508970996252 : Unit := ()
def PySem.W.Fast.tw3186084095826975527 : Unit := ()
def PySem.W.Fast.tw1850291245578276398 : Unit := ()
def PySem.W.Fast.tw7943268318647421382 : Unit := ()
def PySem.W.Fast.tw11822085920182208398 : Unit := ()
def PySem.W.Fast.tw49463809972986840 : Unit := ()
def PySem.W.Fast.tw8930700575337630722 : Unit := ()
def PySem.W.Fast.tw11416594948101053560 : Unit := ()
def PySem.W.Fast.tw2689534095029327102 : Unit := ()
def PySem.W.Fast.tw8331914639881857852 : Unit := ()
def PySem.W.Fast.tw16438692060462453478 : Unit := ()
def PySem.W.Fast.tw6206453769902501824 : Unit := ()
def PySem.W.Fast.tw14667871512918648487 : Unit := ()
def PySem.W.Fast.tw17966098474737204210 : Unit := ()
def PySem.W.Fast.tw14572866885765001747 : Unit := ()
def PySem.W.Fast.tw4707353365712137116 : Unit := ()
def PySem.W.Fast.tw13450586194418548802 : Unit := ()
def PySem.W.Fast.tw17138847971861540249 : Unit := ()
def PySem.W.Fast.tw16330885860822750446 : Unit := ()
def PySem.W.Fast.tw14737979841421092787 : Unit := ()
def PySem.W.Fast.tw7565045294525906879 : Unit := ()
def PySem.W.Fast.tw11615536831993098083 : Unit := ()
def PySem.W.Fast.tw4670522947461697093 : Unit := ()
def PySem.W.Fast.tw2289034306908377061 : Unit := ()
def PySem.W.Fast.tw3607652410338180849 : Unit := ()
def PySem.W.Fast.tw12478386418327714127 : Unit := ()
def PySem.W.Fast.tw1177108495637821027 : Unit := ()
def PySem.W.Fast.tw1911412887458335300 : Unit := ()
def PySem.W.Fast.tw18322499604547483598 : Unit := ()
def PySem.W.Fast.tw5327506657479011597 : Unit := ()
def PySem.W.Fast.tw8065680752307051794 : Unit := ()
def PySem.W.Fast.tw7223470839014801365 : Unit := ()
def PySem.W.Fast.tw1546202485500180959 : Unit := ()
def PySem.W.Fast.tw7200150633167881078 : Unit := ()
def PySem.W.Fast.tw13453206995398960334 : Unit := ()
def PySem.W.Fast.tw8971524245325887252 : Unit := ()
def PySem.W.Fast.tw5444938268433878949 : Unit := ()
def PySem.W.Fast.tw1420250412164095140 : Unit := ()
def PySem.W.Fast.tw8603015493742441070 : Unit := ()
def PySem.W.Fast.tw8514676604783284720 : Unit := ()
def PySem.W.Fast.tw6299855454497851611 : Unit := ()
def PySem.W.Fast.tw7480846546746486522 : Unit := ()
def PySem.W.Fast.tw4314235390427200574 : Unit := ()
def PySem.W.Fast.tw16400857737495322832 : Unit := ()
def PySem.W.Fast.tw5138303364574902402 : Unit := ()
def PySem.W.Fast.tw869758174672318732 : Unit := ()
def PySem.W.Fast.tw8656330328434105306 : Unit := ()
def PySem.W.Fast.tw5406046337268450357 : Unit := ()
def PySem.W.Fast.tw14513146202622605927 : Unit := ()
def PySem.W.Fast.tw15417468065724098058 : Unit := ()
def PySem.W.Fast.tw3421073477373018580 : Unit := ()
def PySem.W.Fast.tw3753808100110805743 : Unit := ()
def PySem.W.Fast.tw1890628940942179337 : Unit := ()
def PySem.W.Fast.tw17132610060236284174 : Unit := ()
def PySem.W.Fast.tw17229724677554243210 : Unit := ()
def PySem.W.Fast.tw17618510562225123547 : Unit := ()
def PySem.W.Fast.tw12634580156834071765 : Unit := ()
def PySem.W.Fast.tw9991171951565543446 : Unit := ()
def PySem.W.Fast.tw9815847995923928669 : Unit := ()
def PySem.W.Fast.tw11933658853009338108 : Unit := ()
def PySem.W.Fast.tw13934397978919539412 : Unit := ()
def PySem.W.Fast.tw9746849713003811997 : Unit := ()
def PySem.W.Fast.tw11653007399822031272 : Unit := ()
def PySem.W.Fast.tw1158602485879808528 : Unit := ()
def PySem.W.Fast.tw4827204452098889574 : Unit := ()
def PySem.W.Fast.tw6429777934788701949 : Unit := ()
def PySem.W.Fast.tw10484095675431332379 : Unit := ()
def PySem.W.Fast.tw1245566154791938824 : Unit := ()
def PySem.W.Fast.tw4214053730241612157 : Unit := ()
def PySem.W.Fast.tw6894359851558160993 : Unit := ()
def PySem.W.Fast.tw1004407875511402241 : Unit := ()
def PySem.W.Fast.tw13299708706174656731 : Unit := ()
def PySem.W.Fast.tw5537559186578712185 : Unit := ()
def PySem.W.Fast.tw7831672889034124529 : Unit := ()
def PySem.W.Fast.tw16590446425655815490 : Unit := ()
def PySem.W.Fast.tw5603941898516302922 : Unit := ()
def PySem.W.Fast.tw3863780840387531900 : Unit := ()
def PySem.W.Fast.tw4611824119128479556 : Unit := ()
def PySem.W.Fast.tw1206774655884851286 : Unit := ()
def PySem.W.Fast.tw4771486695351030598 : Unit := ()
def PySem.W.Fast.tw5689394519468662381 : Unit := ()
def PySem.W.Fast.tw4152754930959314386 : Unit := ()
def PySem.W.Fast.tw12031034674872096995 : Unit := ()
def PySem.W.Fast.tw1655357667309269034 : Unit := ()
def PySem.W.Fast.tw14807783409672906804 : Unit := ()
def PySem.W.Fast.tw12857906612481430877 : Unit := ()
def PySem.W.Fast.tw16994423475090713544 : Unit := ()
def PySem.W.Fast.tw16091759973612842198 : Unit := ()
def PySem.W.Fast.tw10883394827606520139 : Unit := ()
def PySem.W.Fast.tw9451428507745115341 : Unit := ()
def PySem.W.Fast.tw6167509242412983777 : Unit := ()
def PySem.W.Fast.tw17342107605481842056 : Unit := ()
def PySem.W.Fast.tw3760984939952253530 : Unit := ()
def PySem.W.Fast.tw679522439666255219 : Unit := ()
def PySem.W.Fast.tw17920497693358024014 : Unit := ()
def PySem.W.Fast.tw14646781645284072693 : Unit := ()
def PySem.W.Fast.tw2820506081661920944 : Unit := ()
def PySem.W.Fast.tw7333176693226246601 : Unit := ()
def PySem.W.Fast.tw742966976882898551 : Unit := ()
def PySem.W.Fast.tw13620644565175559642 : Unit := ()
def PySem.W.Fast.tw15260184769152489680 : Unit := ()
def PySem.W.Fast.tw7804998958360731184 : Unit := ()
def PySem.W.Fast.tw4788668573068343052 : Unit := ()
def PySem.W.Fast.tw896742408425383800 : Unit := ()
def PySem.W.Fast.tw4500255326829696570 : Unit := ()
def PySem.W.Fast.tw5522571774092130038 : Unit := ()
def PySem.W.Fast.tw8054279550416417898 : Unit := ()
def PySem.W.Fast.tw11812989634634765737 : Unit := ()
def PySem.W.Fast.tw14802376457607075555 : Unit := ()
def PySem.W.Fast.tw11213108479505721896 : Unit := ()
def PySem.W.Fast.tw4033916639594646325 : Unit := ()
def PySem.W.Fast.tw3305636493051850973 : Unit := ()
def PySem.W.Fast.tw10135796768166905415 : Unit := ()
def PySem.W.Fast.tw8286616650220984672 : Unit := ()
def PySem.W.Fast.tw16964150874107013352 : Unit := ()
def PySem.W.Fast.tw558068247108850123 : Unit := ()
def PySem.W.Fast.tw5375524785472116746 : Unit := ()
def PySem.W.Fast.tw4209805326228521525 : Unit := ()
def PySem.W.Fast.tw14029350379603946219 : Unit := ()
def PySem.W.Fast.tw9217245800505807559 : Unit := ()
def PySem.W.Fast.tw17372133970701693102 : Unit := ()
def PySem.W.Fast.tw2046032693424739222 : Unit := ()
def PySem.W.Fast.tw3229900806435982913 : Unit := ()
def PySem.W.Fast.tw8510246100768760762 : Unit := ()
def PySem.W.Fast.tw4634437989579002304 : Unit := ()
def PySem.W.Fast.tw6231174961373583462 : Unit := ()
def PySem.W.Fast.tw4515059914174338940 : Unit := ()
def PySem.W.Fast.tw17192271093844997737 : Unit := ()
def PySem.W.Fast.tw14393852692848016512 : Unit := ()
def PySem.W.Fast.tw5400753365387760067 : Unit := ()
def PySem.W.Fast.tw12904221646088909282 : Unit := ()
def PySem.W.Fast.tw9403386098757281330 : Unit := ()
def PySem.W.Fast.tw5656749874554939677 : Unit := ()
def PySem.W.Fast.tw5921501024316369953 : Unit := ()
def PySem.W.Fast.tw618994325566231852 : Unit := ()
def PySem.W.Fast.tw520017706006182333 : Unit := ()
def PySem.W.Fast.tw6132528876226666188 : Unit := ()
def PySem.W.Fast.tw4384413145117863120 : Unit := ()
def PySem.W.Fast.tw4525356295627951207 : Unit := ()
def PySem.W.Fast.tw1201214635038856932 : Unit := ()
def PySem.W.Fast.tw10728803390673746143 : Unit := ()
def PySem.W.Fast.tw14253793064524703629 : Unit := ()
def PySem.W.Fast.tw2645051991370149216 : Unit := ()
def PySem.W.Fast.tw5451796106332037410 : Unit := ()
def PySem.W.Fast.tw15845199953754993341 : Unit := ()
def PySem.W.Fast.tw4094006001799205813 : Unit := ()
def PySem.W.Fast.tw4607764648272364552 : Unit := ()
def PySem.W.Fast.tw7343935636880833170 : Unit := ()
def PySem.W.Fast.tw13972988114777566612 : Unit := ()
def PySem.W.Fast.tw17191998997150536390 : Unit := ()
def PySem.W.Fast.tw6162127726544523064 : Unit := ()
def PySem.W.Fast.tw2086284773033847165 : Unit := ()
def PySem.W.Fast.tw8246464197014215774 : Unit := ()
def PySem.W.Fast.tw4670491180327760890 : Unit := ()
def PySem.W.Fast.tw13179836590574255009 : Unit := ()
def PySem.W.Fast.tw8621356315159692802 : Unit := ()
def PySem.W.Fast.tw4001379584487836937 : Unit := ()
def PySem.W.Fast.tw11187627896433806698 : Unit := ()
def PySem.W.Fast.tw3028033616392695278 : Unit := ()
def PySem.W.Fast.tw9493093340835685985 : Unit := ()
def PySem.W.Fast.tw17540560736848623215 : Unit := ()
def PySem.W.Fast.tw18397029452904857824 : Unit := ()
def PySem.W.Fast.tw18337633109979831186 : Unit := ()
def PySem.W.Fast.tw14759302639440461662 : Unit := ()
def PySem.W.Fast.tw1120551473268241769 : Unit := ()
def PySem.W.Fast.tw6014282257563287690 : Unit := ()
def PySem.W.Fast.tw8112889855164534910 : Unit := ()
def PySem.W.Fast.tw10237164953452219145 : Unit := ()
def PySem.W.Fast.tw14326649752776245200 : Unit := ()
def PySem.W.Fast.tw9749675917438324938 : Unit := ()
def PySem.W.Fast.tw2805072342693786741 : Unit := ()
def PySem.W.Fast.tw16283054991820359528 : Unit := ()
def PySem.W.Fast.tw5081131380822354427 : Unit := ()
def PySem.W.Fast.tw7095892480392977700 : Unit := ()
def PySem.W.Fast.tw13052729802714732281 : Unit := ()
def PySem.W.Fast.tw14252719330464497779 : Unit := ()
def PySem.W.Fast.tw2565248722875329832 : Unit := ()
def PySem.W.Fast.tw8058843475120359158 : Unit := ()
def PySem.W.Fast.tw5250777758051567970 : Unit := ()
def PySem.W.Fast.tw9967062624222349353 : Unit := ()
def PySem.W.Fast.tw11235366866171187744 : Unit := ()
def PySem.W.Fast.tw10454563209116368610 : Unit := ()
def PySem.W.Fast.tw9178519513085718484 : Unit := ()
def PySem.W.Fast.tw17845428521530369562 : Unit := ()
def PySem.W.Fast.tw6890902269439038757 : Unit := ()
def PySem.W.Fast.tw10681659132911004039 : Unit := ()
def PySem.W.Fast.tw8089785642218283249 : Unit := ()
def PySem.W.Fast.tw7720270503461581036 : Unit := ()
def PySem.W.Fast.tw2465328255683136820 : Unit := ()
def PySem.W.Fast.tw16112002226860282687 : Unit := ()
def PySem.W.Fast.tw9968150306111800822 : Unit := ()
def PySem.W.Fast.tw6582996744248928905 : Unit := ()
def PySem.W.Fast.tw10741340796979938111 : Unit := ()
def PySem.W.Fast.tw5677859369087798677 : Unit := ()
def PySem.W.Fast.tw17028305622424255893 : Unit := ()
def PySem.W.Fast.tw5070137337220518 : Unit := ()
def PySem.W.Fast.tw9899975245395390497 : Unit := ()
def PySem.W.Fast.tw7504406365274465286 : Unit := ()
def PySem.W.Fast.tw12539417365634710934 : Unit := ()
def PySem.W.Fast.tw17576225525988376219 : Unit := ()
def PySem.W.Fast.tw13546291559110269875 : Unit := ()
def PySem.W.Fast.tw17212413043930455828 : Unit := ()
def PySem.W.Fast.tw1865391504141048706 : Unit := ()
def PySem.W.Fast.tw10409297930373649715 : Unit := ()
def PySem.W.Fast.tw663585345158003171 : Unit := ()
def PySem.W.Fast.tw10667575080115309654 : Unit := ()
def PySem.W.Fast.tw6968161093267608849 : Unit := ()
def PySem.W.Fast.tw17092549534955941043 : Unit := ()
def PySem.W.Fast.tw15713306953402683441 : Unit := ()
def PySem.W.Fast.tw10937386646406164598 : Unit := ()
def PySem.W.Fast.tw12140838168549663761 : Unit := ()
def PySem.W.Fast.tw14076990955247139895 : Unit := ()
def PySem.W.Fast.tw6274614270944301178 : Unit := ()
def PySem.W.Fast.tw7839898378485528280 : Unit := ()
def PySem.W.Fast.tw10904410148289735639 : Unit := ()
def PySem.W.Fast.tw7270038194849765659 : Unit := ()
def PySem.W.Fast.tw591528574633473318 : Unit := ()
def PySem.W.Fast.tw11699032579702267783 : Unit := ()
def PySem.W.Fast.tw15232053855757961165 : Unit := ()
def PySem.W.Fast.tw13275158435366920140 : Unit := ()
def PySem.W.Fast.tw15962008108766705695 : Unit := ()
def PySem.W.Fast.tw13151331403824010448 : Unit := ()
def PySem.W.Fast.tw1592785105345087578 : Unit := ()
def PySem.W.Fast.tw6004295891714368689 : Unit := ()
def PySem.W.Fast.tw3354680705971932794 : Unit := ()
def PySem.W.Fast.tw6249478323301537317 : Unit := ()
def PySem.W.Fast.tw4861170815173777446 : Unit := ()
def PySem.W.Fast.tw13337471290383531480 : Unit := ()
def PySem.W.Fast.tw427116491633746755 : Unit := ()
def PySem.W.Fast.tw3629998053560814159 : Unit := ()
def PySem.W.Fast.tw10752069197867774774 : Unit := ()
def PySem.W.Fast.tw17911813223120057645 : Unit := ()
def PySem.W.Fast.tw7932969468382499403 : Unit := ()
def PySem.W.Fast.tw6797965245893218451 : Unit := ()
def PySem.W.Fast.tw1760011834886383303 : Unit := ()
def PySem.W.Fast.tw4469971346328155026 : Unit := ()
def PySem.W.Fast.tw6999829011624542470 : Unit := ()
def PySem.W.Fast.tw1999644994754246209 : Unit := ()
def PySem.W.Fast.tw4864242689759662295 : Unit := ()
def PySem.W.Fast.tw9004536382413765900 : Unit := ()
def PySem.W.Fast.tw2538992400704231499 : Unit := ()
def PySem.W.Fast.tw17402774971190254417 : Unit := ()
def PySem.W.Fast.tw13587309241516896849 : Unit := ()
def PySem.W.Fast.tw3269082637311661043 : Unit := ()
def PySem.W.Fast.tw6446489405389962809 : Unit := ()
def PySem.W.Fast.tw7917229761043082200 : Unit := ()
def PySem.W.Fast.tw14665110214388167608 : Unit := ()
def PySem.W.Fast.tw3164189416779522129 : Unit := ()
def PySem.W.Fast.tw454996336821255385 : Unit := ()
def PySem.W.Fast.tw13633517899115964083 : Unit := ()
def PySem.W.Fast.tw11855777007353862347 : Unit := ()
def PySem.W.Fast.tw10670305850755100135 : Unit := ()
def PySem.W.Fast.tw15980331353209628912 : Unit := ()
def PySem.W.Fast.tw18099132508424953616 : Unit := ()
def PySem.W.Fast.tw9531102045321143614 : Unit := ()
def PySem.W.Fast.tw2569921559897558381 : Unit := ()
def PySem.W.Fast.tw3536225387259391576 : Unit := ()
def PySem.W.Fast.tw1978975577916159814 : Unit := ()
def PySem.W.Fast.tw4228782686661321299 : Unit := ()
def PySem.W.Fast.tw8795604253743050632 : Unit := ()
def PySem.W.Fast.tw3721611532629852299 : Unit := ()
def PySem.W.Fast.tw1078581752304150049 : Unit := ()
def PySem.W.Fast.tw16024146311844506435 : Unit := ()
def PySem.W.Fast.tw4946272088386667128 : Unit := ()
def PySem.W.Fast.tw1179156882675098746 : Unit := ()
def PySem.W.Fast.tw10142077147507968581 : Unit := ()
def PySem.W.Fast.tw7988853243567408809 : Unit := ()
def PySem.W.Fast.tw11726483805066540573 : Unit := ()
def PySem.W.Fast.tw4366425902208662218 : Unit := ()
def PySem.W.Fast.tw4683033423279622263 : Unit := ()
def PySem.W.Fast.tw10395393977322329804 : Unit := ()
def PySem.W.Fast.tw17992987428930474374 : Unit := ()
def PySem.W.Fast.tw11479044734009816767 : Unit := ()
def PySem.W.Fast.tw2206464579202503105 : Unit := ()
def PySem.W.Fast.tw10331126940027093487 : Unit := ()
def PySem.W.Fast.tw14274353215352573274 : Unit := ()
def PySem.W.Fast.tw6380067185974536294 : Unit := ()
def PySem.W.Fast.tw4593972349281307233 : Unit := ()
def PySem.W.Fast.tw9201044154832536865 : Unit := ()
def PySem.W.Fast.tw17415783103388324818 : Unit := ()
def PySem.W.Fast.tw2794138288013981353 : Unit := ()
def PySem.W.Fast.tw609098935896872786 : Unit := ()
def PySem.W.Fast.tw14605447137130587050 : Unit := ()
def PySem.W.Fast.tw11997609023669484579 : Unit := ()
def PySem.W.Fast.tw16898035515919643730 : Unit := ()
def PySem.W.Fast.tw7723155493131633725 : Unit := ()
def PySem.W.Fast.tw1841856994641711391 : Unit := ()
def PySem.W.Fast.tw3297245448557118478 : Unit := ()
def PySem.W.Fast.tw2507989150337071635 : Unit := ()
def PySem.W.Fast.tw3829876818262119224 : Unit := ()
def PySem.W.Fast.tw15617817810868383213 : Unit := ()
def PySem.W.Fast.tw2167865532629844701 : Unit := ()
def PySem.W.Fast.tw571731599375137288 : Unit := ()
def PySem.W.Fast.tw2283977704761235226 : Unit := ()
def PySem.W.Fast.tw13004463550329407979 : Unit := ()
def PySem.W.Fast.tw12770490103434938789 : Unit := ()
def PySem.W.Fast.tw7150061472792176591 : Unit := ()
def PySem.W.Fast.tw14760677767783709975 : Unit := ()
def PySem.W.Fast.tw4296357767549844820 : Unit := ()
def PySem.W.Fast.tw13318820887428039354 : Unit := ()
def PySem.W.Fast.tw7721923266368953073 : Unit := ()
def PySem.W.Fast.tw7575316027570815542 : Unit := ()
def PySem.W.Fast.tw6565247152840270368 : Unit := ()
def PySem.W.Fast.tw13050000460644601710 : Unit := ()
def PySem.W.Fast.tw2906209429968268420 : Unit := ()
def PySem.W.Fast.tw2337280683612119585 : Unit := ()
def PySem.W.Fast.tw3503347724639702709 : Unit := ()
def PySem.W.Fast.tw15558670806458162968 : Unit := ()
def PySem.W.Fast.tw368467789401706373 : Unit := ()
def PySem.W.Fast.tw17692742957715786082 : Unit := ()
def PySem.W.Fast.tw6821290587055225123 : Unit := ()
def PySem.W.Fast.tw12772118085485096699 : Unit := ()
def PySem.W.Fast.tw11415841881256515296 : Unit := ()
def PySem.W.Fast.tw15369556264091890723 : Unit := ()
def PySem.W.Fast.tw3145936122517462414 : Unit := ()
def PySem.W.Fast.tw1021877565486522963 : Unit := ()
def PySem.W.Fast.tw10147319795499688573 : Unit := ()
def PySem.W.Fast.tw16292179673032457497 : Unit := ()
def PySem.W.Fast.tw14120265263265878746 : Unit := ()
def PySem.W.Fast.tw12076252711899480317 : Unit := ()
def PySem.W.Fast.tw16335973515784339843 : Unit := ()
def PySem.W.Fast.tw17735576881865410371 : Unit := ()
def PySem.W.Fast.tw18327499387109200699 : Unit := ()
def PySem.W.Fast.tw12369481381789419464 : Unit := ()
set_option maxRecDepth 100000 in
set_option maxHeartbeats 0 in
theorem PySem.Challenge.cw_combstrip_k09_shape_steps_holds : PySem.Challenge.rw_combstrip_k09_shape_steps.Holds := by
  w_on; o_law; k_head; (case hw => w_witness2)
  k_fill
  refine K09.walk (l := PySem.Challenge.rw_combstrip_k09_shape_steps) rfl rfl (fun w h Y => PySem.W.kIn_of Y) ?F
  case F =>
    intro w mg fa h KX G hmg
    refine' K09.all KX G hmg (L2.bn_mk KX G ?n0 ?n1 ?n2 ?n3 ?n4 ?n5 ?n6 ?n7 ?n8 ?n9 ?n10 ?n11 ?n12 ?n13 ?n14 ?n15 ?n16 ?n17 ?n18 ?n19 ?n20) ?v0 ?v1 ?v2 ?v3 ?v4 ?zgt0 ?ztc0 ?r0 ?r1 ?r2 ?r3 ?r4 ?r5 ?r6 ?r7 ?r8 ?r9 ?r10 ?r11 ?r12 ?r13 ?r14 ?zrce ?zhc ?zini ?zbc ?m0 ?m1 ?m2 ?m3 ?m4 ?m5 ?d0 ?d1 ?d2 ?d3 ?d4 ?d5 ?d6 ?d7 ?d8 ?d9 ?d10 ?d11 ?d12 ?d13 ?d14 ?d15 ?d16 ?d17 ?d18 ?d19 ?d20 ?d21
    (case n0 => k_is)
    (case n1 => k_is)
    (case n2 => k_is)
    (case n3 => k_is)
    (case n4 => k_is)
    (case n5 => k_is)
    (case n6 => k_is)
    (case n7 => k_is)
    (case n8 => k_is)
    (case n9 => k_is)
    (case n10 => k_is)
    (case n11 => k_is)
    (case n12 => k_is)
    (case n13 => k_is)
    (case n14 => k_is)
    (case n15 => k_is)
    (case n16 => k_is)
    (case n17 => k_is)
    (case n18 => k_is)
    (case n19 => k_is)
    (case n20 => k_is)
    (case v0 => refine' L2.int_mk KX G ?a; (case a => k_is))
    (case v1 => refine' L2.int_mk KX G ?a; (case a => k_is))
    (case v2 => refine' L2.int_mk KX G ?a; (case a => k_is))
    (case v3 => refine' L2.int_mk KX G ?a; (case a => k_is))
    (case v4 => refine' L2.int_mk KX G ?a; (case a => k_is))
    (case zgt0 => refine' L2.ref_mk KX G ?a; (case a => k_is))
    (case ztc0 => kernel_rfl)
    (case r0 => refine' L2.ref_mk KX G ?a; (case a => k_is))
    (case r1 => refine' L2.ref_mk KX G ?a; (case a => k_is))
    (case r2 => refine' L2.ref_mk KX G ?a; (case a => k_is))
    (case r3 => refine' L2.ref_mk KX G ?a; (case a => k_is))
    (case r4 => refine' L2.ref_mk KX G ?a; (case a => k_is))
    (case r5 => refine' L2.ref_mk KX G ?a; (case a => k_is))
    (case r6 => refine' L2.ref_mk KX G ?a; (case a => k_is))
    (case r7 => refine' L2.ref_mk KX G ?a; (case a => k_is))
    (case r8 => refine' L2.ref_mk KX G ?a; (case a => k_is))
    (case r9 => refine' L2.ref_mk KX G ?a; (case a => k_is))
    (case r10 => refine' L2.ref_mk KX G ?a; (case a => k_is))
    (case r11 => refine' L2.ref_mk KX G ?a; (case a => k_is))
    (case r12 => refine' L2.ref_mk KX G ?a; (case a => k_is))
    (case r13 => refine' L2.ref_mk KX G ?a; (case a => k_is))
    (case r14 => refine' L2.ref_mk KX G ?a; (case a => k_is))
    (case zrce => refine' L2.ref_mk KX G ?a; (case a => k_is))
    (case zhc => kernel_rfl)
    (case zini => refine' L2.init_mk (L2.ref_mk KX G ?z) ?a ?l ?c ?k ?i ?k2 ?mk; (case z => k_is); (case a => k_is); (case l => k_is); (case c => k_is); (case k => k_is); (case i => k_is); (case k2 => k_is); (case mk => k_is))
    (case zbc => kernel_rfl)
    (case m0 => refine' L2.meth_mk ?a ?l ?c ?k ?i; (case a => k_is); (case l => k_is); (case c => k_is); (case k => k_is); (case i => k_is))
    (case m1 => refine' L2.meth_mk ?a ?l ?c ?k ?i; (case a => k_is); (case l => k_is); (case c => k_is); (case k => k_is); (case i => k_is))
    (case m2 => refine' L2.meth_mk ?a ?l ?c ?k ?i; (case a => k_is); (case l => k_is); (case c => k_is); (case k => k_is); (case i => k_is))
    (case m3 => refine' L2.meth_mk ?a ?l ?c ?k ?i; (case a => k_is); (case l => k_is); (case c => k_is); (case k => k_is); (case i => k_is))
    (case m4 => refine' L2.meth_mk ?a ?l ?c ?k ?i; (case a => k_is); (case l => k_is); (case c => k_is); (case k => k_is); (case i => k_is))
    (case m5 => refine' L2.meth_mk ?a ?l ?c ?k ?i; (case a => k_is); (case l => k_is); (case c => k_is); (case k => k_is); (case i => k_is))
    (case d0 => refine' L2.def_mk KX G ?a ?l ?c ?k; (case a => k_is); (case l => k_is); (case c => k_is); (case k => k_is))
    (case d1 => refine' L2.def_mk KX G ?a ?l ?c ?k; (case a => k_is); (case l => k_is); (case c => k_is); (case k => k_is))
    (case d2 => refine' L2.def_mk KX G ?a ?l ?c ?k; (case a => k_is); (case l => k_is); (case c => k_is); (case k => k_is))
    (case d3 => refine' L2.def_mk KX G ?a ?l ?c ?k; (case a => k_is); (case l => k_is); (case c => k_is); (case k => k_is))
    (case d4 => refine' L2.def_mk KX G ?a ?l ?c ?k; (case a => k_is); (case l => k_is); (case c => k_is); (case k => k_is))
    (case d5 => refine' L2.def_mk KX G ?a ?l ?c ?k; (case a => k_is); (case l => k_is); (case c => k_is); (case k => k_is))
    (case d6 => refine' L2.def_mk KX G ?a ?l ?c ?k; (case a => k_is); (case l => k_is); (case c => k_is); (case k => k_is))
    (case d7 => refine' L2.def_mk KX G ?a ?l ?c ?k; (case a => k_is); (case l => k_is); (case c => k_is); (case k => k_is))
    (case d8 => refine' L2.def_mk KX G ?a ?l ?c ?k; (case a => k_is); (case l => k_is); (case c => k_is); (case k => k_is))
    (case d9 => refine' L2.def_mk KX G ?a ?l ?c ?k; (case a => k_is); (case l => k_is); (case c => k_is); (case k => k_is))
    (case d10 => refine' L2.def_mk KX G ?a ?l ?c ?k; (case a => k_is); (case l => k_is); (case c => k_is); (case k => k_is))
    (case d11 => refine' L2.def_mk KX G ?a ?l ?c ?k; (case a => k_is); (case l => k_is); (case c => k_is); (case k => k_is))
    (case d12 => refine' L2.def_mk KX G ?a ?l ?c ?k; (case a => k_is); (case l => k_is); (case c => k_is); (case k => k_is))
    (case d13 => refine' L2.def_mk KX G ?a ?l ?c ?k; (case a => k_is); (case l => k_is); (case c => k_is); (case k => k_is))
    (case d14 => refine' L2.def_mk KX G ?a ?l ?c ?k; (case a => k_is); (case l => k_is); (case c => k_is); (case k => k_is))
    (case d15 => refine' L2.def_mk KX G ?a ?l ?c ?k; (case a => k_is); (case l => k_is); (case c => k_is); (case k => k_is))
    (case d16 => refine' L2.def_mk KX G ?a ?l ?c ?k; (case a => k_is); (case l => k_is); (case c => k_is); (case k => k_is))
    (case d17 => refine' L2.def_mk KX G ?a ?l ?c ?k; (case a => k_is); (case l => k_is); (case c => k_is); (case k => k_is))
    (case d18 => refine' L2.def_mk KX G ?a ?l ?c ?k; (case a => k_is); (case l => k_is); (case c => k_is); (case k => k_is))
    (case d19 => refine' L2.def_mk KX G ?a ?l ?c ?k; (case a => k_is); (case l => k_is); (case c => k_is); (case k => k_is))
    (case d20 => refine' L2.def_mk KX G ?a ?l ?c ?k; (case a => k_is); (case l => k_is); (case c => k_is); (case k => k_is))
    (case d21 => refine' L2.def_mk KX G ?a ?l ?c ?k; (case a => k_is); (case l => k_is); (case c => k_is); (case k => k_is))

