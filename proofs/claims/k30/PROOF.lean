import PyProof.Rows.All
import Wide.All
import OpenK.AllK
import Wide.FinOn
import Lean
import PyProof.EqAt
import PyProof.EqKinds
import PyProof.TupleCall
import PySem.Challenge.RW_combstrip_k30_whole_line
set_option Elab.async false
set_option linter.all false
set_option maxRecDepth 100000
/-! THE HAND LAYER, for ints, bools, texts, own classes, DICTS (int and text keys), calls, loops. Paste it whole ahead of your own text; what your proof does not reach may be deleted. -/
namespace L2
open PySem PySem.Spec PyProof.Rows

/-- a key: an int or a str -/
abbrev Key := Sum Int Str
def keyIs : Key → Value → Bool
  | .inl k, v => Value.isInt k v
  | .inr x, v => Value.isStrOf x v
def keyH (w : World) : Key → Int
  | .inl k => hashInt k
  | .inr x => hashStr w x
theorem keyIs_shape : ∀ {k : Key} {v : Value}, keyIs k v = true → (∃ i t, k = Sum.inl i ∧ v = Value.int i t) ∨ (∃ x t, k = Sum.inr x ∧ v = Value.str x t)
  | .inl i, v, h => by
    obtain ⟨t, e⟩ := Value.isInt_shape (k := i) (v := v) h
    exact .inl ⟨i, t, rfl, e⟩
  | .inr x, v, h => by
    obtain ⟨t, e⟩ := Value.isStrOf_shape (x := x) (v := v) h
    exact .inr ⟨x, t, rfl, e⟩
theorem keyIs_int (i : Int) (t : Tok) : keyIs (.inl i) (.int i t) = true := by simp [keyIs, Value.isInt]
theorem keyIs_str (x : Str) (t : Tok) : keyIs (.inr x) (.str x t) = true := by simp [keyIs, Value.isStrOf]
theorem key_ll (a b : Int) : decide ((Sum.inl a : Key) = Sum.inl b) = (a == b) := by
  by_cases e : a = b
  · subst e; simp
  · have h : ¬ (Sum.inl a : Key) = Sum.inl b := fun q => e (Sum.inl.inj q)
    rw [decide_eq_false h]
    exact (beq_eq_false_iff_ne.mpr e).symm
theorem key_rr (a b : Str) : decide ((Sum.inr a : Key) = Sum.inr b) = decide (a = b) := by
  by_cases e : a = b
  · subst e; simp
  · have h : ¬ (Sum.inr a : Key) = Sum.inr b := fun q => e (Sum.inr.inj q)
    rw [decide_eq_false h, decide_eq_false e]
theorem key_lr (a : Int) (b : Str) : decide ((Sum.inl a : Key) = Sum.inr b) = false := decide_eq_false (fun q => nomatch q)
theorem key_rl (a : Str) (b : Int) : decide ((Sum.inr a : Key) = Sum.inl b) = false := decide_eq_false (fun q => nomatch q)

def mixKind (prog : Program) (w : World) : PySem.KeyKind prog w Key where
  is := keyIs
  hash := keyH w
  inj := fun v a b ha hb => by
    rcases keyIs_shape ha with ⟨i, t, rfl, rfl⟩ | ⟨x, t, rfl, rfl⟩
    · rcases keyIs_shape hb with ⟨j, u, rfl, e⟩ | ⟨y, u, rfl, e⟩
      · injection e with e1 _; rw [e1]
      · exact nomatch e
    · rcases keyIs_shape hb with ⟨j, u, rfl, e⟩ | ⟨y, u, rfl, e⟩
      · exact nomatch e
      · injection e with e1 _; rw [e1]
  byValue := fun k v h => by
    rcases keyIs_shape h with ⟨i, t, rfl, rfl⟩ | ⟨x, t, rfl, rfl⟩ <;> rfl
  pyHash := fun hv h => by
    rcases keyIs_shape hv with ⟨i, t, rfl, rfl⟩ | ⟨x, t, rfl, rfl⟩
    · exact wpAny_pyHash_int h
    · exact wpAny_pyHash_str h
  eqBool := fun hu hv h => by
    rcases keyIs_shape hu with ⟨i, t, rfl, rfl⟩ | ⟨x, t, rfl, rfl⟩
    · rcases keyIs_shape hv with ⟨j, u, rfl, rfl⟩ | ⟨y, u, rfl, rfl⟩
      · rw [key_ll] at h; exact wpAny_eqBool_int h
      · rw [key_lr] at h; exact SeqAt.EqAt.int_str i t y u _ _ _ _ h
    · rcases keyIs_shape hv with ⟨j, u, rfl, rfl⟩ | ⟨y, u, rfl, rfl⟩
      · rw [key_rl] at h; exact SeqAt.EqAt.str_int x t j u _ _ _ _ h
      · rw [key_rr] at h; exact wpAny_eqBool_str h
  «strs» := fun k x t v h => by
    rcases keyIs_shape h with ⟨i, u, rfl, e⟩ | ⟨y, u, rfl, e⟩
    · exact nomatch e
    · injection e with e1 _
      subst e1
      cases v <;> rfl

theorem mixKind_int (prog : Program) (w : World) (i : Int) (t : Tok) : (mixKind prog w).is (.inl i) (.int i t) = true := keyIs_int i t
theorem mixKind_str (prog : Program) (w : World) (x : Str) (t : Tok) : (mixKind prog w).is (.inr x) (.str x t) = true := keyIs_str x t
end L2

namespace L2
open PySem PySem.Spec PyProof.Rows

/-- a value, without the heap -/
inductive V where
  | non | bl (b : Bool) | int (i : Int) | str (x : Str) | byt (b : Array UInt8) | flt (b : UInt64) | ref (a : Addr) | ty (n : String)
  deriving DecidableEq

def RelV : V → Value → Prop
  | .non, u => u = Value.none
  | .bl b, u => u = Value.bool b
  | .int i, u => ∃ t, u = Value.int i t
  | .str x, u => ∃ t, u = Value.str x t
  | .byt b, u => ∃ t, u = Value.bytes b t
  | .flt b, u => ∃ t, u = Value.float b t
  | .ref a, u => u = Value.ref a
  | .ty n, u => u = Value.type n

abbrev Vals : List V → List Value → Prop := Paired RelV
theorem Vals.length {xs : List V} {us : List Value} (r : Vals xs us) : xs.length = us.length := Paired.length r
theorem Vals.get : ∀ {xs : List V} {us : List Value} {i : Nat} {x : V}, Vals xs us → xs[i]? = some x → ∃ u, us[i]? = some u ∧ RelV x u
  | _, _, _, _, .nil, e => by simp at e
  | _, _, 0, _, .cons r _, e => by simp at e; subst e; exact ⟨_, rfl, r⟩
  | _, _, i + 1, x, .cons _ t, e => by
    obtain ⟨u, h1, h2⟩ := Vals.get (i := i) (x := x) t (by simpa using e)
    exact ⟨u, by simpa using h1, h2⟩
theorem Vals.append : ∀ {xs ys : List V} {us ws : List Value}, Vals xs us → Vals ys ws → Vals (xs ++ ys) (us ++ ws)
  | _, _, _, _, .nil, s => s
  | _, _, _, _, .cons r t, s => .cons r (Vals.append t s)
theorem Vals.take : ∀ {xs : List V} {us : List Value} (n : Nat), Vals xs us → Vals (xs.take n) (us.take n)
  | _, _, 0, _ => .nil
  | _, _, _ + 1, .nil => .nil
  | _, _, n + 1, .cons r t => .cons r (Vals.take n t)
theorem Vals.drop : ∀ {xs : List V} {us : List Value} (n : Nat), Vals xs us → Vals (xs.drop n) (us.drop n)
  | _, _, 0, r => r
  | _, _, _ + 1, .nil => .nil
  | _, _, n + 1, .cons _ t => Vals.drop n t
def RelO : Option V → Option Value → Prop
  | some v, some u => RelV v u
  | none, none => True
  | _, _ => False
def KV {κ : Type} : List (κ × V) → List (κ × Value) → Prop := Paired fun (p : κ × V) (q : κ × Value) => p.1 = q.1 ∧ RelV p.2 q.2

/-- a key of a dict (00_mix): an int or a text -/
def kV : Key → V
  | .inl i => .int i
  | .inr x => .str x

/-- what stands at a tracked address -/
inductive HO where
  /-- a list -/
  | lst (xs : List V)
  /-- a tuple (never changes) -/
  | tup (xs : List V)
  /-- a dict whose keys are ints and texts; one whose keys are tuples of ints and texts (the empty one is both) -/
  | dK (kvs : List (Key × V)) | dT (kvs : List (List Key × V))
  /-- a set of ints: its members, its size -/
  | set (S : Int → Bool) (n : Nat)
  /-- an instance of the class at C, its dict at dx, its attributes -/
  | ins (C dx : Addr) (fs : List (Str × V))
  /-- the dict of the instance at x -/
  | own (x : Addr)
  /-- the dict of an exception -/
  | xd (fs : List (Str × V))
  /-- a bound method, f of x -/
  | met (f x : Addr)
  /-- a range object lo, lo + 1, .. below hi -/
  | rng (lo hi : Int)
  /-- a thing that is known to the object (the script; a dict while a loop walks it): read, never written while it is so -/
  | frz (o : Obj) (u : HO)
  /-- a code object's table -/
  | tbl (ps : Array Value)
  /-- any other thing, by what is true of its one object (a def of one's own: SetO a S n := HO.ext fun h => ..) -/
  | ext (φ : Heap → Prop)

abbrev Hp := Addr → Option HO
def upd (H : Hp) (a : Addr) (o : HO) : Hp := fun b => if b = a then some o else H b
theorem upd_same {H : Hp} {a : Addr} {o : HO} : upd H a o a = some o := by unfold upd; rw [if_pos rfl]
theorem upd_ne {H : Hp} {a b : Addr} {o : HO} (h : b ≠ a) : upd H a o b = H b := by unfold upd; rw [if_neg h]
/-- two objects of different content stand apart -/
theorem ne_of {H : Hp} {a b : Addr} {o u : HO} (h : H a = some o) (h' : H b = some u) (d : o ≠ u) : a ≠ b := by
  intro e; subst e; rw [h] at h'; exact d (Option.some.inj h')
theorem ne_of_none {H : Hp} {a b : Addr} {o : HO} (h : H a = some o) (h' : H b = none) : a ≠ b := by
  intro e; subst e; rw [h] at h'; cases h'

section
variable (P : Program) (w : World)
def ObjOk (H : Hp) (h : Heap) (a : Addr) : HO → Prop
  | .lst xs => xs.length ≤ sizeLine ∧ ∃ (its : List Value) (n : Nat), Vals xs its ∧ h.get? a = some { cls := .type "list", data := .seq its.toArray n }
  | .tup xs => xs.length ≤ sizeLine ∧ ∃ its : List Value, Vals xs its ∧ IsTup h a its.toArray
  | .dK kvs => kvs.length ≤ sizeLine ∧ (a == sysModules) = false ∧ ∃ vs, KV kvs vs ∧ h.DictOf (mixKind P w) a vs
  | .dT kvs => kvs.length ≤ sizeLine ∧ (a == sysModules) = false ∧ ∃ xs : List (List Key × Addr × Value),
      Paired (fun (p : List Key × V) (q : List Key × Addr × Value) => p.1 = q.1 ∧ H q.2.1 = some (.tup (p.1.map kV)) ∧ RelV p.2 q.2.2) kvs xs ∧
      ∃ o es ep, h.get? a = some o ∧ o.ExactDict ∧ o.data = .dict es ep ∧ es.toList = xs.map (entryOfKey (tupleKind (mixKind P w))) ∧ (xs.map (·.1)).Nodup
  | .set S n => h.SetOf (intKind P w) a S n
  | .ins C dx fs => H dx = some (.own a) ∧ fs.length ≤ 1000 ∧ dx ≠ a ∧ h.get? a = some (PySem.W.instObj C dx) ∧
      ∃ mA, h.Ns1 dx mA ∧ (∀ f, RelO (fs.lookup f) (mA f)) ∧ PySem.Within mA (fs.map (·.1))
  | .own _ => ∃ o, h.get? a = some o
  | .xd fs => ∃ mA, h.Ns1 a mA ∧ ∀ f, RelO (fs.lookup f) (mA f)
  | .rng lo hi => ∃ t u v, h.get? a = some { cls := .type "range", data := .fields #[.int lo t, .int hi u, .int 1 v] }
  | .frz o u => h.get? a = some o ∧ ObjOk H h a u
  | .tbl ps => h.get? a = some { cls := .none, data := .fields ps }
  | .met f x => h.get? a = some (PySem.W.methodObj (.ref f) (.ref x))
  | .ext φ => φ h ∧ (∃ o, h.get? a = some o) ∧ ∀ h1 h2 : Heap, φ h1 → (∀ o, h1.get? a = some o → h2.get? a = some o) → φ h2
/-- the abstract heap is held -/
def HOk (H : Hp) (h : Heap) : Prop := ∀ a o, H a = some o → ObjOk P w H h a o
end

section
variable {P : Program} {w : World} {H H' : Hp} {h h' : Heap} {a : Addr} {o : HO}
theorem ObjOk.lt (x : ObjOk P w H h a o) : a < h.objs.size := by
  cases o with
  | lst xs => obtain ⟨_, _, _, _, e⟩ := x; exact Heap.lt_size e
  | tup xs => obtain ⟨_, _, _, p⟩ := x; exact p.lt
  | dK kvs => obtain ⟨_, _, _, _, o, _, _, e, _⟩ := x; exact Heap.lt_size e
  | dT kvs => obtain ⟨_, _, _, _, o, _, _, e, _⟩ := x; exact Heap.lt_size e
  | set S n => obtain ⟨o, _, _, _, e, _⟩ := x; exact Heap.lt_size e
  | ins C dx fs => obtain ⟨_, _, _, e, _⟩ := x; exact Heap.lt_size e
  | own y => obtain ⟨_, e⟩ := x; exact Heap.lt_size e
  | xd fs => obtain ⟨_, ⟨_, _, _, e, _⟩, _⟩ := x; exact Heap.lt_size e
  | rng lo hi => obtain ⟨_, _, _, e⟩ := x; exact Heap.lt_size e
  | frz ob u => obtain ⟨e, _⟩ := x; exact Heap.lt_size e
  | tbl ps => exact Heap.lt_size (show h.get? a = some _ from x)
  | met f y => exact Heap.lt_size (show h.get? a = some _ from x)
  | ext φ => obtain ⟨_, ⟨_, e⟩, _⟩ := x; exact Heap.lt_size e
theorem Paired.mapP {α β : Type} {F G : α → β → Prop} : ∀ {l₁ : List α} {l₂ : List β}, Paired F l₁ l₂ → (∀ a b, F a b → G a b) → Paired G l₁ l₂
  | _, _, .nil, _ => .nil
  | _, _, .cons r t, f => .cons (f _ _ r) (Paired.mapP t f)
/-- what an object's description leans on: its own object, its own dict, the tuples -/
theorem ObjOk.stay (x : ObjOk P w H h a o) (k : ∀ b u, (b = a ∨ H b = some (.own a)) → h.get? b = some u → h'.get? b = some u)
    (ho : ∀ b, H b = some (.own a) → H' b = some (.own a)) (ht : ∀ b xs, H b = some (.tup xs) → H' b = some (.tup xs)) : ObjOk P w H' h' a o := by
  induction o with
  | lst xs => obtain ⟨z, its, n, r, e⟩ := x; exact ⟨z, its, n, r, k _ _ (.inl rfl) e⟩
  | tup xs => obtain ⟨z, its, r, ob, e, c⟩ := x; exact ⟨z, its, r, ob, k _ _ (.inl rfl) e, c⟩
  | dK kvs => obtain ⟨z, y, vs, r, ob, es, ep, e, c⟩ := x; exact ⟨z, y, vs, r, ob, es, ep, k _ _ (.inl rfl) e, c⟩
  | dT kvs =>
    obtain ⟨z, y, xs, r, ob, es, ep, e, c⟩ := x
    exact ⟨z, y, xs, Paired.mapP r fun p q z => ⟨z.1, ht _ _ z.2.1, z.2.2⟩, ob, es, ep, k _ _ (.inl rfl) e, c⟩
  | set S n => obtain ⟨ob, es, ep, t, e, c⟩ := x; exact ⟨ob, es, ep, t, k _ _ (.inl rfl) e, c⟩
  | ins C dx fs =>
    obtain ⟨d, z, ne, e, mA, ⟨od, es, ep, e2, c⟩, r⟩ := x
    exact ⟨ho _ d, z, ne, k _ _ (.inl rfl) e, mA, ⟨od, es, ep, k _ _ (.inr d) e2, c⟩, r⟩
  | own y => obtain ⟨ob, e⟩ := x; exact ⟨ob, k _ _ (.inl rfl) e⟩
  | xd fs => obtain ⟨mA, ⟨od, es, ep, e, c⟩, r⟩ := x; exact ⟨mA, ⟨od, es, ep, k _ _ (.inl rfl) e, c⟩, r⟩
  | rng lo hi => obtain ⟨t, u, v, e⟩ := x; exact ⟨t, u, v, k _ _ (.inl rfl) e⟩
  | frz ob u ih => obtain ⟨e, q⟩ := x; exact ⟨k _ _ (.inl rfl) e, ih q⟩
  | tbl ps =>
    have e : h.get? a = some { cls := .none, data := .fields ps } := x
    show h'.get? a = some { cls := .none, data := .fields ps }
    exact k a _ (.inl rfl) e
  | met f y =>
    have e : h.get? a = some (PySem.W.methodObj (.ref f) (.ref y)) := x
    show h'.get? a = some (PySem.W.methodObj (.ref f) (.ref y))
    exact k a _ (.inl rfl) e
  | ext φ => obtain ⟨p, ⟨o, e⟩, st⟩ := x; exact ⟨st _ _ p fun o q => k _ _ (.inl rfl) q, ⟨o, k _ _ (.inl rfl) e⟩, st⟩
theorem HOk.lt (x : HOk P w H h) (e : H a = some o) : a < h.objs.size := (x a o e).lt
theorem HOk.fresh (x : HOk P w H h) (e : h.objs.size ≤ a) : H a = none := by
  cases q : H a with
  | none => rfl
  | some u => exact absurd (Nat.lt_of_lt_of_le (x.lt q) e) (Nat.lt_irrefl _)
/-- every object of the heap is kept -/
theorem HOk.kept (x : HOk P w H h) (k : ∀ b u, h.get? b = some u → h'.get? b = some u) : HOk P w H h' := fun a o e =>
  (x a o e).stay (fun b u _ q => k b u q) (fun _ q => q) fun _ _ q => q
/-- a new object is laid and tracked -/
theorem HOk.laid (x : HOk P w H h) (k : ∀ b u, h.get? b = some u → h'.get? b = some u) (hp : h.objs.size ≤ a) (new : ObjOk P w (upd H a o) h' a o) : HOk P w (upd H a o) h' := fun b u e => by
  have hn := x.fresh hp
  by_cases hb : b = a
  · subst hb; rw [upd_same] at e; cases e; exact new
  · rw [upd_ne hb] at e
    exact (x b u e).stay (fun c v _ q => k c v q) (fun c q => by rw [upd_ne (ne_of_none q hn)]; exact q) fun c xs q => by rw [upd_ne (ne_of_none q hn)]; exact q
end

/-- what may be read as u: it is u, or a known u -/
def Rd (H : Hp) (a : Addr) (u : HO) : Prop := H a = some u ∨ ∃ o, H a = some (.frz o u)
theorem Rd.ok {P : Program} {w : World} {H : Hp} {h : Heap} {a : Addr} {u : HO} (r : Rd H a u) (x : HOk P w H h) : ObjOk P w H h a u := by
  rcases r with r | ⟨o, r⟩
  · exact x a u r
  · obtain ⟨_, q⟩ := x a _ r
    exact q
/-- what may be written -/
def Mut : Option HO → Prop
  | some (.lst _) => True
  | some (.dK _) => True
  | some (.dT _) => True
  | some (.set _ _) => True
  | some (.ins _ _ _) => True
  | some (.ext _) => True
  | _ => False
section
variable {P : Program} {w : World} {H : Hp} {h h' : Heap} {x e : Addr} {o' : HO}
/-- the object at e is changed: x itself, or the dict of the instance x -/
theorem HOk.write (ok : HOk P w H h) (mu : Mut (H x)) (he : e = x ∨ H e = some (.own x)) (k : ∀ b u, b ≠ e → h.get? b = some u → h'.get? b = some u) (heo : ∃ u, h'.get? e = some u)
    (new : ObjOk P w (upd H x o') h' x o') : HOk P w (upd H x o') h' := fun b u q => by
  have nown : ∀ c y, H c = some (.own y) → c ≠ x := fun c y r z => by subst z; rw [r] at mu; exact mu
  have ntup : ∀ c xs, H c = some (.tup xs) → c ≠ x := fun c xs r z => by subst z; rw [r] at mu; exact mu
  by_cases hb : b = x
  · subst hb; rw [upd_same] at q; cases q; exact new
  · rw [upd_ne hb] at q
    by_cases hbe : b = e
    · have q' : H b = some (.own x) := by
        rcases he with z | z
        · exact absurd (hbe.trans z) hb
        · rw [hbe]; exact z
      rw [q] at q'; cases q'
      obtain ⟨v, hv⟩ := heo
      exact ⟨v, by rw [hbe]; exact hv⟩
    · refine (ok b u q).stay (fun c v hc r => k c v ?_ r) (fun c r => by rw [upd_ne (nown c b r)]; exact r) fun c xs r => by rw [upd_ne (ntup c xs r)]; exact r
      rcases hc with rfl | hc
      · exact hbe
      · rintro rfl
        rcases he with z | z
        · exact nown c b hc z
        · rw [hc] at z; cases z; exact hb rfl
end

/-! ### kept unless tracked; of the frames at fs (the callers') the slots may change (an exception that passes writes there); of the records at ex (iterators) nothing is said -/
structure Un (fs ex : List Addr) (H H' : Hp) (h h' : Heap) : Prop where
  keep : ∀ b o, h.get? b = some o → H b = none → b ∉ fs → b ∉ ex → h'.get? b = some o
  slot : ∀ b o, h.get? b = some o → H b = none → b ∈ fs → b ∉ ex → ∃ sl, h'.get? b = some { o with slots := sl }
  free : ∀ b o, h.get? b = some o → H b = none → b ∉ ex → H' b = none
  there : ∀ b o, h.get? b = some o → b ∉ ex → ∃ o', h'.get? b = some o'
  tups : ∀ b xs, H b = some (.tup xs) → H' b = some (.tup xs)
  frzs : ∀ b o u, H b = some (.frz o u) → H' b = some (.frz o u)
  tbls : ∀ b ps, H b = some (.tbl ps) → ∃ more, H' b = some (.tbl (ps ++ more))
section
variable {fs fs' ex ex' : List Addr} {H H1 H2 : Hp} {h h1 h2 h' : Heap} {a x e : Addr} {o : HO}
theorem Un.any (u : Un fs ex H H1 h h1) {b : Addr} {ob : Obj} (q : h.get? b = some ob) (n : H b = none) (hx : b ∉ ex) : ∃ sl, h1.get? b = some { ob with slots := sl } := by
  by_cases hb : b ∈ fs
  · exact u.slot b ob q n hb hx
  · exact ⟨ob.slots, u.keep b ob q n hb hx⟩
theorem Un.trans (a : Un fs ex H H1 h h1) (b : Un fs ex H1 H2 h1 h2) : Un fs ex H H2 h h2 where
  keep := fun c ob q n hc hx => b.keep c ob (a.keep c ob q n hc hx) (a.free c ob q n hx) hc hx
  slot := fun c ob q n hc hx => by
    obtain ⟨sl, e1⟩ := a.slot c ob q n hc hx
    obtain ⟨sl', e2⟩ := b.slot c _ e1 (a.free c ob q n hx) hc hx
    exact ⟨sl', e2⟩
  free := fun c ob q n hx => by
    obtain ⟨o', e1⟩ := a.there c ob q hx
    exact b.free c o' e1 (a.free c ob q n hx) hx
  there := fun c ob q hx => by
    obtain ⟨o', e1⟩ := a.there c ob q hx
    exact b.there c o' e1 hx
  tups := fun c xs q => b.tups c xs (a.tups c xs q)
  frzs := fun c ob xs q => b.frzs c ob xs (a.frzs c ob xs q)
  tbls := fun c ps q => by
    obtain ⟨m1, e1⟩ := a.tbls c ps q
    obtain ⟨m2, e2⟩ := b.tbls c _ e1
    exact ⟨m1 ++ m2, by rw [e2, Array.append_assoc]⟩
theorem Un.kept (k : ∀ b u, h.get? b = some u → h'.get? b = some u) : Un fs ex H H h h' :=
  ⟨fun b ob q _ _ _ => k b ob q, fun b ob q _ _ _ => ⟨ob.slots, k b ob q⟩, fun _ _ _ n _ => n, fun b ob q _ => ⟨ob, k b ob q⟩, fun _ _ q => q, fun _ _ _ q => q, fun _ ps q => ⟨#[], by rw [q]; simp⟩⟩
theorem Un.refl : Un fs ex H H h h := Un.kept fun _ _ q => q
theorem Un.laid (k : ∀ b u, h.get? b = some u → h'.get? b = some u) (hp : h.objs.size ≤ a) (hn : H a = none) : Un fs ex H (upd H a o) h h' where
  keep := fun b u q _ _ _ => k b u q
  slot := fun b u q _ _ _ => ⟨u.slots, k b u q⟩
  free := fun b u q n _ => by rw [upd_ne (Nat.ne_of_lt (Nat.lt_of_lt_of_le (Heap.lt_size q) hp))]; exact n
  there := fun b u q _ => ⟨u, k b u q⟩
  tups := fun b xs q => by rw [upd_ne (ne_of_none q hn)]; exact q
  frzs := fun b u xs q => by rw [upd_ne (ne_of_none q hn)]; exact q
  tbls := fun b ps q => ⟨#[], by rw [upd_ne (ne_of_none q hn), q]; simp⟩
theorem Un.write (mu : Mut (H x)) (he : e = x ∨ H e = some (.own x)) (k : ∀ b u, b ≠ e → h.get? b = some u → h'.get? b = some u) (heo : ∃ u, h'.get? e = some u) : Un fs ex H (upd H x o) h h' := by
  have hx : ∀ b, H b = none → b ≠ x := fun b n z => by subst z; rw [n] at mu; exact mu
  have hb : ∀ b, H b = none → b ≠ e := fun b n z => by
    subst z
    rcases he with r | r
    · exact hx b n r
    · rw [n] at r; cases r
  have hm : ∀ b u, H b = some u → ¬ Mut (some u) → b ≠ x := fun b u q nm z => by subst z; rw [q] at mu; exact nm mu
  refine ⟨fun b u q n _ _ => k b u (hb b n) q, fun b u q n _ _ => ⟨u.slots, k b u (hb b n) q⟩, fun b u q n _ => by rw [upd_ne (hx b n)]; exact n, fun b u q _ => ?_,
    fun b xs q => by rw [upd_ne (hm b _ q fun z => z)]; exact q, fun b u xs q => by rw [upd_ne (hm b _ q fun z => z)]; exact q, fun b ps q => ⟨#[], by rw [upd_ne (hm b _ q fun z => z), q]; simp⟩⟩
  by_cases hbe : b = e
  · subst hbe; exact heo
  · exact ⟨u, k b u hbe q⟩
end

/-! ### the heap without what is tracked -/
def trk (h : Heap) (H : Hp) : List Addr := (List.range h.objs.size).filter fun a => (H a).isSome
def hidT (h : Heap) (H : Hp) : Heap := PySem.W.hideAll h (trk h H)
theorem hidT_size (h : Heap) (H : Hp) : (hidT h H).objs.size = h.objs.size := PySem.W.hideAll_size _ _
theorem hidT_get {h : Heap} {H : Hp} {b : Addr} {o : Obj} (e : h.get? b = some o) (n : H b = none) : (hidT h H).get? b = some o :=
  PySem.W.hideAll_get _ e fun hm => by
    have q : (H b).isSome = true := (List.mem_filter.mp hm).2
    rw [n] at q; simp at q
theorem of_hidT {h : Heap} {H : Hp} {b : Addr} {o : Obj} (e : (hidT h H).get? b = some o) : h.get? b = some o ∧ H b = none := by
  have e' : h.get? b = some o := PySem.W.of_hideAll (trk h H) e
  refine ⟨e', ?_⟩
  cases q : H b with
  | none => rfl
  | some x =>
    have hm : b ∈ trk h H := List.mem_filter.mpr ⟨List.mem_range.mpr (Heap.lt_size e'), by simp [q]⟩
    have z : (hidT h H).get? b = none := PySem.W.hideAll_none (trk h H) hm
    rw [z] at e; cases e

/-! ### OpenK's ledger, filled with every new object but one -/
def allNews (g h : Heap) (L : Addr) : List (Addr × Obj) := (List.range h.objs.size).filterMap fun a => if a = L ∨ (g.get? a).isSome = true then none else (h.get? a).map fun o => (a, o)
def rest (g h : Heap) (L d : Addr) : List (Addr × Obj) := (allNews g h L).filter fun p => decide (p.1 ≠ d)
end L2

namespace L2
open PySem PySem.Spec PyProof.Rows

/-- the module's facts, over the base: the heap at the law's entry without what is tracked there -/
structure Mod (K : PySem.W.Frag) (mg : Str → Option Value) (base : Heap) : Prop where
  kin : K.In base
  glob : base.Ns mainGlobals mg
  blt : ∃ mb, base.Ns builtinsNs mb ∧ ∀ x : Str, x ≠ "__name__" → mb x = bootBuiltins x
  nolimit : base.NoLimit

/-- the context: a def's body (or a comprehension's block) running. base: fixed through the whole law; s₀, H₀: the entry; outer: the frames whose slots others may change (a def's callers); stack: all frames that run;
   ex: iterators that were made ahead of the entry and are walked here (a comprehension's); fn: the names whose cells were made at the entry (a def: all; a comprehension's block: its own); calm: not within an except suite; pn: pins that every state bears; xe: what is wanted of an exception that leaves the code -/
structure Cx where
  prog : Program
  w : World
  K : PySem.W.Frag
  mg : Str → Option Value
  base : Heap
  A : Around
  N : List Str
  s₀ : Shared
  H₀ : Hp
  env : Env
  outer : List Env
  stack : List Env
  ex : List Addr
  fn : Str → Bool
  calm : Bool
  pn : List (Addr × Obj)
  xe : Value → Shared → Prop
/-- the callers' frames -/
def frs (l : List Env) : List Addr := l.filterMap (·.frame)
abbrev Cx.fs (X : Cx) : List Addr := frs X.outer

def Vis (sc : Scope) (x : Str) : Prop := sc.names.lookup x = some .local ∨ sc.names.lookup x = some .cell ∨ sc.names.lookup x = some .free
def Loc (sc : Scope) (x : Str) : Prop := sc.names.lookup x = some .local ∨ sc.names.lookup x = some .cell
def Look (env : Env) (h : Heap) (m : Str → Option Value) (x : Str) (u : Value) : Prop :=
  (env.kindOf x = some .local ∧ m x = some u) ∨ ((env.kindOf x = some .cell ∨ env.kindOf x = some .free) ∧ ∃ c, env.cells.lookup x = some c ∧ h.IsCell c (some u))

structure Cx.Ok (X : Cx) : Prop where
  mod : Mod X.K X.mg X.base
  kind : X.env.scope.kind = .function
  glob : X.env.globals = mainGlobals
  blt : X.env.builtins = builtinsNs
  above : X.s₀.heap.objs.size ≤ X.env.locals
  inj : ∀ x y c, X.env.cells.lookup x = some c → X.env.cells.lookup y = some c → x = y
  has : ∀ x, (X.env.kindOf x = some .cell ∨ X.env.kindOf x = some .free) → ∃ c, X.env.cells.lookup x = some c
  cab : ∀ x c, X.fn x = true → X.env.cells.lookup x = some c → X.s₀.heap.objs.size ≤ c
  hd : X.calm = true → X.A.handled = none
  frames : X.A.frames = some X.stack
  stk : X.stack = X.outer ∨ (X.stack = X.env :: X.outer ∧ X.env.frame = some X.env.locals)
  exf : ∀ b ∈ X.ex, b ≠ X.env.locals ∧ ∀ x c, X.env.cells.lookup x = some c → c ≠ b
  bs : ∀ b o, X.base.get? b = some o → X.s₀.heap.get? b = some o ∧ X.H₀ b = none
  bsz : X.base.objs.size ≤ X.s₀.heap.objs.size
  noex : ∀ b o, X.base.get? b = some o → b ∉ X.ex
  exfs : ∀ b ∈ X.ex, b ∉ X.fs
  funs : X.s₀.heap.FunFrames X.base X.outer
  frf : ∀ b ∈ X.fs, X.H₀ b = none

structure Inv (X : Cx) (pins : List (Addr × Obj)) (σ : List (Option V)) (H : Hp) (s : Shared) : Prop where
  ok : X.Ok
  os : s.os = X.s₀.os
  bare : AllBare s.gens
  base : Un X.fs X.ex X.H₀ H X.s₀.heap s.heap
  loc : ∃ m, s.heap.Ns X.env.locals m ∧ ∀ (i : Nat) (x : Str) (v : V), X.N[i]? = some x → σ[i]? = some (some v) → Vis X.env.scope x → ∃ u, RelV v u ∧ Look X.env s.heap m x u
  cell : ∀ x c, X.env.cells.lookup x = some c → ∃ v, s.heap.IsCell c v
  free : H X.env.locals = none
  freeC : ∀ x c, X.env.cells.lookup x = some c → H c = none
  pin : ∀ p ∈ X.pn ++ pins, s.heap.get? p.1 = some p.2 ∧ H p.1 = none ∧ p.1 ≠ X.env.locals ∧ p.1 ∉ X.fs ∧ ∀ v, p.2.data ≠ .cell v
  hok : HOk X.prog X.w H s.heap
  len : σ.length = X.N.length

section
variable {X : Cx} {pins : List (Addr × Obj)} {σ : List (Option V)} {H H' : Hp} {s : Shared} {h' : Heap}

theorem Cx.Ok.nofr (ok : X.Ok) {b : Addr} {o : Obj} (e : X.base.get? b = some o) : b ∉ X.fs := fun hb => by
  have := (ok.funs.mem hb).1
  rw [e] at this; cases this
theorem Inv.bs (I : Inv X pins σ H s) : ∀ b o, X.base.get? b = some o → s.heap.get? b = some o ∧ H b = none := fun b o e =>
  ⟨I.base.keep b o (I.ok.bs b o e).1 (I.ok.bs b o e).2 (I.ok.nofr e) (I.ok.noex b o e), I.base.free b o (I.ok.bs b o e).1 (I.ok.bs b o e).2 (I.ok.noex b o e)⟩
theorem Inv.bk (I : Inv X pins σ H s) : ∀ b o, X.base.get? b = some o → s.heap.get? b = some o := fun b o e => (I.bs b o e).1
theorem Inv.mod (I : Inv X pins σ H s) : Mod X.K X.mg X.base := I.ok.mod
theorem Inv.kIn (I : Inv X pins σ H s) : X.K.In s.heap := I.ok.mod.kin.keeps I.bk
/-- the frame over the base: for OpenK's rules (K.In X.base is I.mod.kin) -/
theorem Inv.fr (I : Inv X pins σ H s) : ∃ m, Fr X.base X.env.locals s.heap m :=
  let ⟨m, hn, _⟩ := I.loc
  ⟨m, hn, I.bk, Nat.le_trans I.ok.bsz I.ok.above⟩
theorem Inv.lt (I : Inv X pins σ H s) : X.env.locals < s.heap.objs.size := let ⟨_, hn, _⟩ := I.loc; hn.lt
theorem Inv.sz (I : Inv X pins σ H s) : X.s₀.heap.objs.size ≤ s.heap.objs.size := Nat.le_trans I.ok.above (Nat.le_of_lt I.lt)
theorem Inv.nofs (I : Inv X pins σ H s) {a : Addr} (h : s.heap.objs.size ≤ a) : a ∉ X.fs := fun hb => by
  obtain ⟨_, o, ho, _⟩ := I.ok.funs.mem hb
  exact absurd (Nat.lt_of_lt_of_le (Heap.lt_size ho) (Nat.le_trans I.sz h)) (Nat.lt_irrefl _)
theorem Inv.cne (I : Inv X pins σ H s) : ∀ x c, X.env.cells.lookup x = some c → c ≠ X.env.locals := fun x c e z => by
  obtain ⟨v, o, ho, hd⟩ := I.cell x c e
  obtain ⟨m, ⟨o', es, ep, ho', hd', _⟩, _⟩ := I.loc
  rw [z, ho'] at ho; cases ho; rw [hd'] at hd; cases hd
theorem Inv.funs (I : Inv X pins σ H s) : s.heap.FunFrames X.base X.outer := by
  have all : ∀ (l : List Env), (∀ b ∈ frs l, b ∈ X.fs) → X.s₀.heap.FunFrames X.base l → s.heap.FunFrames X.base l := by
    intro l
    induction l with
    | nil => intro _ _; trivial
    | cons env r ih =>
      intro hs hl
      obtain ⟨hk, ⟨L, o, hf, hn, ho, hd⟩, hr⟩ := hl
      have hL : L ∈ X.fs := hs L (by unfold frs; rw [List.filterMap_cons, hf]; exact List.mem_cons_self)
      obtain ⟨sl, e⟩ := I.base.slot L o ho (I.ok.frf L hL) hL fun z => I.ok.exfs L z hL
      exact ⟨hk, ⟨L, _, hf, hn, e, hd⟩, ih (fun b hb => hs b (by unfold frs; rw [List.filterMap_cons, hf]; exact List.mem_cons_of_mem _ hb)) hr⟩
  exact all X.outer (fun _ hb => hb) I.ok.funs

/-- the frames that run, for a call -/
theorem Inv.stack (I : Inv X pins σ H s) : s.heap.FunFrames X.base X.stack := by
  rcases I.ok.stk with e | ⟨e, hf⟩
  · rw [e]; exact I.funs
  · rw [e]
    obtain ⟨m, hn, _⟩ := I.loc
    refine .cons (by rw [I.ok.kind]; decide) hf hn ?_ I.funs
    exact Heap.get?_none_of_le (Nat.le_trans I.ok.bsz I.ok.above)
theorem Inv.stkSub (I : Inv X pins σ H s) : ∀ b ∈ frs X.stack, b ∈ X.env.locals :: X.fs := fun b hb => by
  rcases I.ok.stk with e | ⟨e, hf⟩
  · rw [e] at hb; exact List.mem_cons_of_mem _ hb
  · rw [e] at hb
    unfold frs at hb
    rw [List.filterMap_cons, hf] at hb
    exact hb
theorem Inv.stkFree (I : Inv X pins σ H s) : ∀ b ∈ frs X.stack, H b = none := fun b hb => by
  rcases List.mem_cons.mp (I.stkSub b hb) with e | hb
  · rw [e]; exact I.free
  · obtain ⟨_, o, ho, _⟩ := I.ok.funs.mem hb
    exact I.base.free b o ho (I.ok.frf b hb) fun z => I.ok.exfs b z hb

/-- THE STEP: the untracked objects but the frame and the records at ch are kept (the callers' frames up to slots), the frame's map is kept, the new abstract heap is held -/
theorem Inv.step {g' : Array GenState} {t' : Nat} {d' : Drawn} {ch : List Addr} (I : Inv X pins σ H s)
    (hch : ∀ b ∈ ch, (b ∈ X.ex ∨ X.s₀.heap.objs.size ≤ b) ∧ b ≠ X.env.locals ∧ (∀ x c, X.env.cells.lookup x = some c → c ≠ b) ∧ ∀ p ∈ X.pn ++ pins, p.1 ≠ b)
    (keep : ∀ b o, b ≠ X.env.locals → b ∉ X.fs → b ∉ ch → s.heap.get? b = some o → H b = none → h'.get? b = some o)
    (slot : ∀ b o, b ≠ X.env.locals → b ∈ X.fs → b ∉ ch → s.heap.get? b = some o → H b = none → ∃ sl, h'.get? b = some { o with slots := sl }) (free : ∀ b o, b ∉ ch → s.heap.get? b = some o → H b = none → H' b = none)
    (there : ∀ b o, b ∉ ch → s.heap.get? b = some o → ∃ o', h'.get? b = some o')
    (tups : ∀ b xs, H b = some (.tup xs) → H' b = some (.tup xs)) (frzs : ∀ b o u, H b = some (.frz o u) → H' b = some (.frz o u)) (tbls : ∀ b ps, H b = some (.tbl ps) → ∃ more, H' b = some (.tbl (ps ++ more)))
    (ns : ∀ m, s.heap.Ns X.env.locals m → h'.Ns X.env.locals m) (hok : HOk X.prog X.w H' h') (hg : AllBare g') :
    Inv X pins σ H' { s with heap := h', gens := g', drawn := d', toks := t' } := by
  have neL : ∀ b o, X.s₀.heap.get? b = some o → b ≠ X.env.locals := fun b o e => Nat.ne_of_lt (Nat.lt_of_lt_of_le (Heap.lt_size e) I.ok.above)
  have neC : ∀ b o, X.s₀.heap.get? b = some o → b ∉ X.ex → b ∉ ch := fun b o e hx hb => by
    rcases (hch b hb).1 with z | z
    · exact hx z
    · exact absurd (Nat.lt_of_lt_of_le (Heap.lt_size e) z) (Nat.lt_irrefl _)
  have cellK : ∀ x c, X.env.cells.lookup x = some c → ∀ v, s.heap.IsCell c v → h'.IsCell c v := fun x c e v ⟨o, ho, hd⟩ => by
    have nch : c ∉ ch := fun z => (hch c z).2.2.1 x c e rfl
    by_cases hc : c ∈ X.fs
    · obtain ⟨sl, q⟩ := slot c o (I.cne x c e) hc nch ho (I.freeC x c e)
      exact ⟨_, q, hd⟩
    · exact ⟨o, keep c o (I.cne x c e) hc nch ho (I.freeC x c e), hd⟩
  refine ⟨I.ok, I.os, hg, ⟨fun b o e n hb hx => ?_, fun b o e n hb hx => ?_, fun b o e n hx => ?_, fun b o e hx => ?_, fun b xs e => tups b xs (I.base.tups b xs e), fun b o xs e => frzs b o xs (I.base.frzs b o xs e), fun b ps e => ?_⟩, ?_, fun x c e => ?_, ?_, fun x c e => ?_, fun p hp => ?_, hok, I.len⟩
  · exact keep b o (neL b o e) hb (neC b o e hx) (I.base.keep b o e n hb hx) (I.base.free b o e n hx)
  · obtain ⟨sl, e1⟩ := I.base.slot b o e n hb hx
    obtain ⟨sl', e2⟩ := slot b _ (neL b o e) hb (neC b o e hx) e1 (I.base.free b o e n hx)
    exact ⟨sl', e2⟩
  · obtain ⟨o', e1⟩ := I.base.there b o e hx
    exact free b o' (neC b o e hx) e1 (I.base.free b o e n hx)
  · obtain ⟨o', e1⟩ := I.base.there b o e hx
    exact there b o' (neC b o e hx) e1
  · obtain ⟨m1, e1⟩ := I.base.tbls b ps e
    obtain ⟨m2, e2⟩ := tbls b _ e1
    exact ⟨m1 ++ m2, by rw [e2, Array.append_assoc]⟩
  · obtain ⟨m, hn, hl⟩ := I.loc
    refine ⟨m, ns m hn, fun i x v e1 e2 e3 => ?_⟩
    obtain ⟨u, r, l⟩ := hl i x v e1 e2 e3
    refine ⟨u, r, ?_⟩
    rcases l with l | ⟨k, c, e, z⟩
    · exact .inl l
    · exact .inr ⟨k, c, e, cellK x c e _ z⟩
  · obtain ⟨v, z⟩ := I.cell x c e
    exact ⟨v, cellK x c e v z⟩
  · obtain ⟨m, ⟨o, _, _, ho, _⟩, _⟩ := I.loc
    exact free _ o (fun z => (hch _ z).2.1 rfl) ho I.free
  · obtain ⟨v, o, ho, hd⟩ := I.cell x c e
    exact free c o (fun z => (hch c z).2.2.1 x c e rfl) ho (I.freeC x c e)
  · obtain ⟨e, n, ne, nf, d⟩ := I.pin p hp
    have nch : p.1 ∉ ch := fun z => (hch p.1 z).2.2.2 p hp rfl
    exact ⟨keep p.1 p.2 ne nf nch e n, free p.1 p.2 nch e n, ne, nf, d⟩
/-- .. where the frame's own object is kept too -/
theorem Inv.un {t' : Nat} (I : Inv X pins σ H s) (u : Un X.fs [] H H' s.heap h') (hok : HOk X.prog X.w H' h') : Inv X pins σ H' { s with heap := h', toks := t' } := by
  obtain ⟨m, ⟨o, es, ep, ho, r⟩, _⟩ := id I.loc
  obtain ⟨sl, hL⟩ := u.any ho I.free (by simp)
  exact I.step (g' := s.gens) (d' := s.drawn) (ch := []) (fun _ z => nomatch z) (fun b o _ hb _ e n => u.keep b o e n hb (by simp)) (fun b o _ hb _ e n => u.slot b o e n hb (by simp)) (fun b o _ e n => u.free b o e n (by simp)) (fun b o _ e => u.there b o e (by simp)) u.tups u.frzs u.tbls (fun m' hm => by
    obtain ⟨o', es', ep', ho', r'⟩ := hm
    rw [ho] at ho'; cases ho'
    exact ⟨_, es', ep', hL, r'⟩) hok I.bare
/-- behind a call (or a comprehension's block): the slots of this frame may have changed too, the records at ch may have turned -/
theorem Inv.call {g' : Array GenState} {t' : Nat} {d' : Drawn} {ch : List Addr} (I : Inv X pins σ H s) (u : Un (frs X.stack) ch H H' s.heap h') (hok : HOk X.prog X.w H' h') (hg : AllBare g')
    (hch : ∀ b ∈ ch, (b ∈ X.ex ∨ X.s₀.heap.objs.size ≤ b) ∧ b ≠ X.env.locals ∧ (∀ x c, X.env.cells.lookup x = some c → c ≠ b) ∧ ∀ p ∈ X.pn ++ pins, p.1 ≠ b) :
    Inv X pins σ H' { s with heap := h', gens := g', drawn := d', toks := t' } := by
  obtain ⟨m, ⟨o, es, ep, ho, r⟩, _⟩ := id I.loc
  obtain ⟨sl, hL⟩ := u.any ho I.free fun z => (hch _ z).2.1 rfl
  exact I.step (ch := ch) hch (fun b o hL hb hc e n => u.keep b o e n (fun z => (List.mem_cons.mp (I.stkSub b z)).elim hL hb) hc) (fun b o _ _ hc e n => u.any e n hc) (fun b o hc e n => u.free b o e n hc) (fun b o hc e => u.there b o e hc) u.tups u.frzs u.tbls (fun m' hm => by
    obtain ⟨o', es', ep', ho', r'⟩ := hm
    rw [ho] at ho'; cases ho'
    exact ⟨_, es', ep', hL, r'⟩) hok hg
/-- an untracked record of ours (an iterator) has turned -/
theorem Inv.turned {t' : Nat} {it : Addr} (I : Inv X pins σ H s) (k : ∀ b o, b ≠ it → s.heap.get? b = some o → h'.get? b = some o) (hn : H it = none) (hL : it ≠ X.env.locals)
    (h1 : it ∈ X.ex ∨ X.s₀.heap.objs.size ≤ it) (h2 : ∀ x c, X.env.cells.lookup x = some c → c ≠ it) (h3 : ∀ p ∈ X.pn ++ pins, p.1 ≠ it) : Inv X pins σ H { s with heap := h', toks := t' } := by
  have nit : ∀ b u, H b = some u → b ≠ it := fun b u e z => by rw [z, hn] at e; cases e
  refine I.step (g' := s.gens) (d' := s.drawn) (ch := [it]) (fun b hb => ?_) (fun b o _ _ hc e _ => k b o (fun z => hc (by simp [z])) e) (fun b o _ _ hc e _ => ⟨o.slots, k b o (fun z => hc (by simp [z])) e⟩) (fun _ _ _ _ n => n)
    (fun b o hc e => ⟨o, k b o (fun z => hc (by simp [z])) e⟩) (fun _ _ e => e) (fun _ _ _ e => e) (fun b ps e => ⟨#[], by rw [e]; simp⟩) (fun m hm => ?_) (fun b u e => ?_) I.bare
  · have e : b = it := by simpa using hb
    subst e
    exact ⟨h1, hL, h2, h3⟩
  · obtain ⟨o, es, ep, ho, r⟩ := hm
    exact ⟨o, es, ep, k _ o (Ne.symm hL) ho, r⟩
  · refine (I.hok b u e).stay (fun c v hc q => k c v ?_ q) (fun _ q => q) fun _ _ q => q
    rcases hc with z | z
    · rw [z]; exact nit b u e
    · exact nit c _ z
theorem Inv.tok (I : Inv X pins σ H s) (t : Nat) : Inv X pins σ H { s with toks := t } := I.un (h' := s.heap) (t' := t) Un.refl I.hok
/-- all objects kept -/
theorem Inv.kept {t' : Nat} (I : Inv X pins σ H s) (k : ∀ b u, s.heap.get? b = some u → h'.get? b = some u) : Inv X pins σ H { s with heap := h', toks := t' } := I.un (Un.kept k) (I.hok.kept k)
/-- a new object laid and tracked -/
theorem Inv.laid {a : Addr} {o : HO} {t' : Nat} (I : Inv X pins σ H s) (k : ∀ b u, s.heap.get? b = some u → h'.get? b = some u) (hp : s.heap.objs.size ≤ a) (new : ObjOk X.prog X.w (upd H a o) h' a o) :
    Inv X pins σ (upd H a o) { s with heap := h', toks := t' } := I.un (Un.laid k hp (I.hok.fresh hp)) (I.hok.laid k hp new)
/-- an object written -/
theorem Inv.write {x e : Addr} {o : HO} {t' : Nat} (I : Inv X pins σ H s) (mu : Mut (H x)) (he : e = x ∨ H e = some (.own x)) (k : ∀ b u, b ≠ e → s.heap.get? b = some u → h'.get? b = some u) (heo : ∃ u, h'.get? e = some u)
    (new : ObjOk X.prog X.w (upd H x o) h' x o) : Inv X pins σ (upd H x o) { s with heap := h', toks := t' } := I.un (Un.write mu he k heo) (I.hok.write mu he k heo new)
/-- forgetting slots, pins -/
theorem Inv.weak {σ' : List (Option V)} (I : Inv X pins σ H s) (hl : σ'.length = σ.length) (w : ∀ (i : Nat) v, σ'[i]? = some (some v) → σ[i]? = some (some v)) : Inv X pins σ' H s :=
  ⟨I.ok, I.os, I.bare, I.base, let ⟨m, hn, hl'⟩ := I.loc; ⟨m, hn, fun i x v e1 e2 e3 => hl' i x v e1 (w i v e2) e3⟩, I.cell, I.free, I.freeC, I.pin, I.hok, hl.trans I.len⟩
theorem Inv.pins_of {pins' : List (Addr × Obj)} (I : Inv X pins σ H s) (h : ∀ p ∈ pins', s.heap.get? p.1 = some p.2 ∧ H p.1 = none ∧ p.1 ≠ X.env.locals ∧ p.1 ∉ X.fs ∧ ∀ v, p.2.data ≠ .cell v) : Inv X pins' σ H s :=
  ⟨I.ok, I.os, I.bare, I.base, I.loc, I.cell, I.free, I.freeC, fun p hp => (List.mem_append.mp hp).elim (fun z => I.pin p (List.mem_append_left _ z)) (h p), I.hok, I.len⟩

theorem nodup_ix {N : List Str} (hN : N.Nodup) {i j : Nat} {x : Str} (a : N[i]? = some x) (b : N[j]? = some x) : i = j := by
  obtain ⟨h1, e1⟩ := List.getElem?_eq_some_iff.mp a
  obtain ⟨h2, e2⟩ := List.getElem?_eq_some_iff.mp b
  exact (List.getElem_inj hN).mp (e1.trans e2.symm)

/-- a name is stored; what changed -/
theorem store_ok2 {M : Model} {A : Around} {E : Value → Shared → Prop} {i : Nat} {x : Str} {v : V} {u : Value} {Q : Unit → Shared → Prop} (I : Inv X pins σ H s) (hN : X.N.Nodup) (hi : X.N[i]? = some x) (hx : Loc X.env.scope x) (r : RelV v u)
    (h : ∀ s', Inv X pins (σ.set i (some v)) H s' → (∃ a, Heap.SameBut a s.heap s'.heap ∧ (a = X.env.locals ∨ X.env.cells.lookup x = some a)) → Q () s') (hf : X.fn x = true ∨ X.env.scope.names.lookup x = some .local := by first | exact .inl rfl | exact .inr rfl | assumption) : wpAny M A (storeName X.env x u) Q E s := by
  obtain ⟨m, hn, hl⟩ := id I.loc
  have hcls : (X.env.scope.kind == .class || (X.env.scope.kind == .module && X.env.locals != X.env.globals)) = false := by rw [I.ok.kind]; rfl
  have hiσ : i < σ.length := by rw [I.len]; exact (List.getElem?_eq_some_iff.mp hi).1
  have cne := I.cne
  have tracked : ∀ {a : Addr} {h' : Heap}, (∃ o, s.heap.get? a = some o ∧ H a = none) → Heap.SameBut a s.heap h' → HOk X.prog X.w H h' := fun {a h'} ha hs b ob e => by
    obtain ⟨_, _, hfree⟩ := ha
    refine (I.hok b ob e).stay (fun c w' hc q => (hs.2 c ?_).trans q) (fun _ q => q) fun _ _ q => q
    rintro rfl
    rcases hc with rfl | hc
    · rw [hfree] at e; cases e
    · rw [hfree] at hc; cases hc
  rcases hx with hk | hk
  · refine wpAny_storeName_local hk hn (fun h' hn' hs => ?_) hcls
    obtain ⟨oL, _, _, hoL, _⟩ := id hn
    refine h _ ⟨I.ok, I.os, I.bare, ⟨fun b o e n hb hx => ?_, fun b o e n hb hx => ?_, I.base.free, fun b o e hx => ?_, I.base.tups, I.base.frzs, I.base.tbls⟩, ⟨_, hn', fun j y v' e1 e2 e3 => ?_⟩, fun y c e => ?_, I.free, I.freeC, fun p hp => ?_, tracked ⟨oL, hoL, I.free⟩ hs, by simpa using I.len⟩ ⟨_, hs, .inl rfl⟩
    · exact (hs.2 b (Nat.ne_of_lt (Nat.lt_of_lt_of_le (Heap.lt_size e) I.ok.above))).trans (I.base.keep b o e n hb hx)
    · obtain ⟨sl, e1⟩ := I.base.slot b o e n hb hx
      exact ⟨sl, (hs.2 b (Nat.ne_of_lt (Nat.lt_of_lt_of_le (Heap.lt_size e) I.ok.above))).trans e1⟩
    · obtain ⟨o', e1⟩ := I.base.there b o e hx
      exact ⟨o', (hs.2 b (Nat.ne_of_lt (Nat.lt_of_lt_of_le (Heap.lt_size e) I.ok.above))).trans e1⟩
    · by_cases hj : j = i
      · subst hj
        rw [hi] at e1; cases e1
        rw [List.getElem?_set_self hiσ] at e2
        cases e2
        exact ⟨u, r, .inl ⟨hk, by simp⟩⟩
      · rw [List.getElem?_set_ne (Ne.symm hj)] at e2
        obtain ⟨u', r', q⟩ := hl j y v' e1 e2 e3
        refine ⟨u', r', ?_⟩
        rcases q with ⟨k, e⟩ | ⟨k, c, e, z⟩
        · refine .inl ⟨k, ?_⟩
          have : y ≠ x := fun e => hj (nodup_ix hN e1 (e ▸ hi))
          simp [this, e]
        · exact .inr ⟨k, c, e, z.sameBut hs (cne y c e)⟩
    · obtain ⟨w', z⟩ := I.cell y c e
      exact ⟨w', z.sameBut hs (cne y c e)⟩
    · obtain ⟨e, n, ne, nf, d⟩ := I.pin p hp
      exact ⟨(hs.2 p.1 ne).trans e, n, ne, nf, d⟩
  · have hfn : X.fn x = true := by
      rcases hf with z | z
      · exact z
      · rw [z] at hk; cases hk
    obtain ⟨c, hc⟩ := I.ok.has x (.inl hk)
    obtain ⟨w', z⟩ := I.cell x c hc
    refine wpAny_storeName_cell I.ok.kind hk hc z (fun h' hc' hs => ?_)
    obtain ⟨oc, hoc, hocd⟩ := id z
    refine h { s with heap := h' } ⟨I.ok, I.os, I.bare, ⟨fun b o e n hb hx => ?_, fun b o e n hb hx => ?_, I.base.free, fun b o e hx => ?_, I.base.tups, I.base.frzs, I.base.tbls⟩, ⟨m, hn.sameBut hs (Ne.symm (cne x c hc)), fun j y v' e1 e2 e3 => ?_⟩, fun y c' e => ?_, I.free, I.freeC, fun p hp => ?_, tracked ⟨oc, hoc, I.freeC x c hc⟩ hs, by simpa using I.len⟩ ⟨c, hs, .inr hc⟩
    · exact (hs.2 b (Nat.ne_of_lt (Nat.lt_of_lt_of_le (Heap.lt_size e) (I.ok.cab x c hfn hc)))).trans (I.base.keep b o e n hb hx)
    · obtain ⟨sl, e1⟩ := I.base.slot b o e n hb hx
      exact ⟨sl, (hs.2 b (Nat.ne_of_lt (Nat.lt_of_lt_of_le (Heap.lt_size e) (I.ok.cab x c hfn hc)))).trans e1⟩
    · obtain ⟨o', e1⟩ := I.base.there b o e hx
      exact ⟨o', (hs.2 b (Nat.ne_of_lt (Nat.lt_of_lt_of_le (Heap.lt_size e) (I.ok.cab x c hfn hc)))).trans e1⟩
    · by_cases hj : j = i
      · subst hj
        rw [hi] at e1; cases e1
        rw [List.getElem?_set_self hiσ] at e2
        cases e2
        exact ⟨u, r, .inr ⟨.inl hk, c, hc, hc'⟩⟩
      · rw [List.getElem?_set_ne (Ne.symm hj)] at e2
        obtain ⟨u', r', q⟩ := hl j y v' e1 e2 e3
        refine ⟨u', r', ?_⟩
        rcases q with q | ⟨k, c', e, z'⟩
        · exact .inl q
        · refine .inr ⟨k, c', e, z'.sameBut hs ?_⟩
          rintro rfl
          exact hj (nodup_ix hN e1 (I.ok.inj _ _ _ e hc ▸ hi))
    · by_cases hcc : c' = c
      · subst hcc; exact ⟨_, hc'⟩
      · obtain ⟨w2, z2⟩ := I.cell y c' e
        exact ⟨w2, z2.sameBut hs hcc⟩
    · obtain ⟨e, n, ne, nf, d⟩ := I.pin p hp
      refine ⟨(hs.2 p.1 ?_).trans e, n, ne, nf, d⟩
      intro q
      rw [q, hoc] at e
      have q' : oc = p.2 := Option.some.inj e
      exact d w' (by rw [← q']; exact hocd)
theorem store_ok {M : Model} {A : Around} {E : Value → Shared → Prop} {i : Nat} {x : Str} {v : V} {u : Value} {Q : Unit → Shared → Prop} (I : Inv X pins σ H s) (hN : X.N.Nodup) (hi : X.N[i]? = some x) (hx : Loc X.env.scope x) (r : RelV v u)
    (h : ∀ s', Inv X pins (σ.set i (some v)) H s' → Q () s') (hf : X.fn x = true ∨ X.env.scope.names.lookup x = some .local := by first | exact .inl rfl | exact .inr rfl | assumption) : wpAny M A (storeName X.env x u) Q E s :=
  store_ok2 I hN hi hx r (fun s' I' _ => h s' I') hf
/-- behind a call or a block, the state as it is -/
theorem Inv.call' {s' : Shared} {ch : List Addr} (I : Inv X pins σ H s) (ho : s'.os = s.os) (u : Un (frs X.stack) ch H H' s.heap s'.heap) (hok : HOk X.prog X.w H' s'.heap) (hg : AllBare s'.gens)
    (hch : ∀ b ∈ ch, (b ∈ X.ex ∨ X.s₀.heap.objs.size ≤ b) ∧ b ≠ X.env.locals ∧ (∀ x c, X.env.cells.lookup x = some c → c ≠ b) ∧ ∀ p ∈ X.pn ++ pins, p.1 ≠ b) : Inv X pins σ H' s' := by
  obtain ⟨h', g', d', t', o'⟩ := s'
  have e : o' = s.os := ho
  subst e
  exact I.call (g' := g') (t' := t') (d' := d') u hok hg hch
end

/-! ### the judgements -/
/-- an exception: its class, its own dict's address (where it has one), the abstract heap behind it -/
abbrev XK := Value → Option Addr → Hp → Prop
abbrev St := List (Option V)
abbrev VK := V → Hp → Prop
/-- an expression's reading; a test's; an argument list's -/
abbrev TE := St → Hp → VK → Prop
abbrev TT := St → Hp → (Bool → Hp → Prop) → Prop
abbrev TA := St → Hp → (List V → Hp → Prop) → Prop
/-- what is wanted behind a statement -/
structure Ends where
  nx : St → Hp → Prop
  rt : VK
  bk : St → Hp → Prop := fun _ _ => False
  ct : St → Hp → Prop := fun _ _ => False
abbrev TS := Ends → St → Hp → Prop

def EP (X : Cx) (pins : List (Addr × Obj)) (σ : St) (Q : VK) (u : Value) (s' : Shared) : Prop := ∃ v H', Inv X pins σ H' s' ∧ RelV v u ∧ Q v H'
def TP (X : Cx) (pins : List (Addr × Obj)) (σ : St) (Q : Bool → Hp → Prop) (b : Bool) (s' : Shared) : Prop := ∃ H', Inv X pins σ H' s' ∧ Q b H'
def AP (X : Cx) (pins : List (Addr × Obj)) (σ : St) (Q : List V → Hp → Prop) (us : List Value) (s' : Shared) : Prop := ∃ vs H', Inv X pins σ H' s' ∧ Vals vs us ∧ Q vs H'
def SP (X : Cx) (pins : List (Addr × Obj)) (D : Ends) (f : Flow) (s' : Shared) : Prop :=
  match f with
  | .next => ∃ σ' H', Inv X pins σ' H' s' ∧ D.nx σ' H'
  | .brk => ∃ σ' H', Inv X pins σ' H' s' ∧ D.bk σ' H'
  | .cont => ∃ σ' H', Inv X pins σ' H' s' ∧ D.ct σ' H'
  | .ret u => ∃ v σ' H', Inv X pins σ' H' s' ∧ RelV v u ∧ D.rt v H'

def PE (X : Cx) (e : Expr) (t : TE) : Prop :=
  ∀ (pins : List (Addr × Obj)) (s : Shared) (σ : St) (H : Hp) (Q : VK), Inv X pins σ H s → t σ H Q → wpAny (model X.prog X.w) X.A (eval e X.env) (EP X pins σ Q) X.xe s
def PT (X : Cx) (e : Expr) (t : TT) : Prop :=
  ∀ (pins : List (Addr × Obj)) (s : Shared) (σ : St) (H : Hp) (Q : Bool → Hp → Prop), Inv X pins σ H s → t σ H Q → wpAny (model X.prog X.w) X.A (isTrue e X.env (eval e X.env)) (TP X pins σ Q) X.xe s
/-- a test whatever its 'whole' is (and, or) -/
def PW (X : Cx) (e : Expr) (t : TT) : Prop :=
  ∀ (whole : Sem Value) (pins : List (Addr × Obj)) (s : Shared) (σ : St) (H : Hp) (Q : Bool → Hp → Prop), Inv X pins σ H s → t σ H Q → wpAny (model X.prog X.w) X.A (isTrue e X.env whole) (TP X pins σ Q) X.xe s
theorem PW.pt {X : Cx} {e : Expr} {t : TT} (h : PW X e t) : PT X e t := h _
/-- an argument list (no star), from the left -/
def PA (X : Cx) (es : List Expr) (t : TA) : Prop :=
  ∀ (pos : Pos) (pins : List (Addr × Obj)) (s : Shared) (σ : St) (H : Hp) (Q : List V → Hp → Prop), Inv X pins σ H s → t σ H Q → wpAny (model X.prog X.w) X.A (spliced (backTo pos (starEach es X.env))) (AP X pins σ Q) X.xe s
def PS (X : Cx) (st : Stmt) (t : TS) : Prop :=
  ∀ (pins : List (Addr × Obj)) (s : Shared) (σ : St) (H : Hp) (D : Ends), Inv X pins σ H s → t D σ H → wpAny (model X.prog X.w) X.A (exec st X.env) (SP X pins D) X.xe s
def PSs (X : Cx) (st : List Stmt) (t : TS) : Prop :=
  ∀ (pins : List (Addr × Obj)) (s : Shared) (σ : St) (H : Hp) (D : Ends), Inv X pins σ H s → t D σ H → wpAny (model X.prog X.w) X.A (execs st X.env) (SP X pins D) X.xe s
/-- weaken the end -/
theorem thn {α : Type} {t : Sem α} {Q Q' : α → Shared → Prop} {M : Model} {A : Around} {E : Value → Shared → Prop} {s : Shared} (h : wpAny M A t Q E s) (hQ : ∀ a s, Q a s → Q' a s) : wpAny M A t Q' E s := wpAny_mono h hQ fun _ _ x => x
end L2

namespace L2
open PySem PySem.Spec PyProof.Rows
section
variable {X : Cx}

/-! ### names and constants -/
def tVar (i : Nat) : TE := fun σ H Q => ∃ v, σ[i]? = some (some v) ∧ Q v H
def tC (v : V) : TE := fun _ H Q => Q v H
theorem pe_var {i : Nat} {x : Str} {pos : Pos} (hN : X.N[i]? = some x) (hv : Vis X.env.scope x) (hd : (x == ("__debug__" : Str)) = false := by decide) (hcd : (x == ("__classdict__" : Str)) = false := by decide) : PE X (.Name x pos) (tVar i) := by
  intro pins s σ H Q I h
  obtain ⟨v, e, h⟩ := h
  obtain ⟨m, hn, hl⟩ := I.loc
  obtain ⟨u, r, l⟩ := hl i x v hN e hv
  have fin : EP X pins σ Q u s := ⟨v, H, I, r, h⟩
  rcases l with ⟨hk, hm⟩ | ⟨hk, c, hc, hcell⟩
  · exact wpAny_Name (wpAny_loadName_local I.ok.kind hk hn hm fin) hd
  · rcases hk with hk | hk
    · exact wpAny_Name (wpAny_loadName_cell I.ok.kind hk hc hcell fin) hd
    · exact wpAny_Name (wpAny_loadName_free I.ok.kind hk hc hcell fin hcd) hd
theorem pe_int {i j pos} : PE X (.Constant (.int i) j pos) (tC (.int i)) := fun _ _ _ H _ I h => wpAny_Constant_int ⟨.int i, H, I.tok _, ⟨_, rfl⟩, h⟩
theorem pe_bl {b j pos} : PE X (.Constant (.bool b) j pos) (tC (.bl b)) := fun _ _ _ H _ I h => Constant_bool ⟨.bl b, H, I, rfl, h⟩
theorem pe_non {j pos} : PE X (.Constant .none j pos) (tC .non) := fun _ _ _ H _ I h => Constant_none ⟨.non, H, I, rfl, h⟩
theorem pe_str {x j pos} : PE X (.Constant (.str x) j pos) (tC (.str x)) := fun _ _ _ H _ I h => Calls.Constant_str ⟨.str x, H, I.tok _, ⟨_, rfl⟩, h⟩

/-- a global name of the def -/
def Gl (X : Cx) (x : Str) : Prop := X.env.kindOf x = some .globalImplicit
theorem ld_glob {E : Value → Shared → Prop} {pins : List (Addr × Obj)} {s : Shared} {σ : St} {H : Hp} {x : Str} {u : Value} {pos : Pos} {Q : Value → Shared → Prop} (I : Inv X pins σ H s) (hg : Gl X x) (hm : X.mg x = some u) (h : Q u s)
    (hd : (x == ("__debug__" : Str)) = false := by decide) : wpAny (model X.prog X.w) X.A (eval (.Name x pos) X.env) Q E s :=
  Calls.Name_function_global I.ok.kind hg (Calls.loadGlobal_global (by rw [I.ok.glob]; exact I.mod.glob.keeps I.bk) hm h) hd
theorem ld_blt {E : Value → Shared → Prop} {pins : List (Addr × Obj)} {s : Shared} {σ : St} {H : Hp} {x : Str} {u : Value} {pos : Pos} {Q : Value → Shared → Prop} (I : Inv X pins σ H s) (hg : Gl X x) (hm : X.mg x = none) (hv : bootBuiltins x = some u) (h : Q u s)
    (hn : x ≠ "__name__" := by decide) (hd : (x == ("__debug__" : Str)) = false := by decide) : wpAny (model X.prog X.w) X.A (eval (.Name x pos) X.env) Q E s := by
  obtain ⟨mb, h1, h2⟩ := I.mod.blt
  exact Calls.Name_function_global I.ok.kind hg (Calls.loadGlobal_builtin (by rw [I.ok.glob]; exact I.mod.glob.keeps I.bk) hm (by rw [I.ok.blt]; exact h1.keeps I.bk) ((h2 x hn).trans hv) h) hd
/-- a module's constant, a class, a function, as a value -/
theorem pe_glob {x : Str} {v : V} {u : Value} {pos : Pos} (hg : Gl X x) (hm : X.mg x = some u) (r : RelV v u) (hd : (x == ("__debug__" : Str)) = false := by decide) : PE X (.Name x pos) (tC v) :=
  fun _ _ _ H _ I h => ld_glob I hg hm ⟨v, H, I, r, h⟩ hd
theorem pe_bltn {x : Str} {v : V} {u : Value} {pos : Pos} (hg : Gl X x) (hm : X.mg x = none) (hv : bootBuiltins x = some u) (r : RelV v u) (hn : x ≠ "__name__" := by decide) (hd : (x == ("__debug__" : Str)) = false := by decide) : PE X (.Name x pos) (tC v) :=
  fun _ _ _ H _ I h => ld_blt I hg hm hv ⟨v, H, I, r, h⟩ hn hd

/-! ### arithmetic -/
variable {a b : Expr} {ta tb : TE} {pos : Pos}
/-! ### comparisons -/
def PC (X : Cx) (op : CmpOp) (a b : Expr) (t : TE) : Prop :=
  ∀ (pins : List (Addr × Obj)) (s : Shared) (σ : St) (H : Hp) (Q : VK), Inv X pins σ H s → t σ H Q →
    wpAny (model X.prog X.w) X.A (eval a X.env) (fun v s₁ => wpAny (model X.prog X.w) X.A (eval b X.env) (fun u s₂ => wpAny (model X.prog X.w) X.A (compareOp op v u) (EP X pins σ Q) X.xe s₂) X.xe s₁) X.xe s
/-- a comparison as a value, as a test -/
def tB (t : TE) : TT := fun σ H Q => t σ H fun x H1 => ∃ c, x = .bl c ∧ Q c H1
theorem pt_cmp {op : CmpOp} {t : TE} (h : PC X op a b t) (h1 : behindInMarks op b = false := by first | exact nobehind _ (by decide) (by decide) | rfl) : PT X (.Compare a [op] [b] pos) (tB t) := by
  intro pins s σ H Q I hw
  refine wpAny_isTrue_Compare1 (thn (h pins s σ H _ I hw) fun v s1 h1 => thn h1 fun u s2 h2 => thn h2 fun c s3 ⟨x, H1, I1, r1, q1⟩ => ?_) h1
  obtain ⟨d, rfl, q⟩ := q1
  cases r1
  exact wpAny_truthy_bool ⟨H1, I1, q⟩
/-- an expression whose value is a bool, as a test -/
theorem pt_val {e : Expr} {t : TE} (h : PE X e t) (he : ∀ whole, isTrue e X.env whole = (do let v ← whole; standAt e.pos; holding [v] (truthy v)) := by intro _; rfl) : PT X e (tB t) := by
  intro pins s σ H Q I hw
  refine isTrue_plain (thn (h pins s σ H _ I hw) fun v s1 ⟨x, H1, I1, r1, q1⟩ => ?_) (he _)
  obtain ⟨d, rfl, q⟩ := q1
  cases r1
  exact wpAny_truthy_bool ⟨H1, I1, q⟩

/-! ### and, or, not -/
variable {tA tB' : TT} {rest : List Expr}
def tAnd (t u : TT) : TT := fun σ H Q => t σ H fun c H1 => if c = true then u σ H1 Q else Q false H1
def tOr (t u : TT) : TT := fun σ H Q => t σ H fun c H1 => if c = true then Q true H1 else u σ H1 Q
def tNot (t : TT) : TT := fun σ H Q => t σ H fun c H1 => Q (!c) H1
theorem pw_and1 (ha : PT X a tA) : PW X (.BoolOp .And [a] pos) tA := by
  intro wh pins s σ H Q I h
  refine isTrue_and (thn (ha pins s σ H Q I h) fun c s1 e => ?_)
  cases c with
  | true => exact isTrue_and_nil e
  | false => exact e
theorem pw_or1 (ha : PT X a tA) : PW X (.BoolOp .Or [a] pos) tA := by
  intro wh pins s σ H Q I h
  refine isTrue_or (thn (ha pins s σ H Q I h) fun c s1 e => ?_)
  cases c with
  | false => exact isTrue_or_nil e
  | true => exact e
theorem pw_and (ha : PT X a tA) (hb : PW X (.BoolOp .And (b :: rest) pos) tB') : PW X (.BoolOp .And (a :: b :: rest) pos) (tAnd tA tB') := by
  intro wh pins s σ H Q I h
  refine isTrue_and (thn (ha pins s σ H _ I h) fun c s1 ⟨H1, I1, q1⟩ => ?_)
  cases c with
  | true => exact hb wh pins s1 σ H1 Q I1 q1
  | false => exact ⟨H1, I1, q1⟩
theorem pw_or (ha : PT X a tA) (hb : PW X (.BoolOp .Or (b :: rest) pos) tB') : PW X (.BoolOp .Or (a :: b :: rest) pos) (tOr tA tB') := by
  intro wh pins s σ H Q I h
  refine isTrue_or (thn (ha pins s σ H _ I h) fun c s1 ⟨H1, I1, q1⟩ => ?_)
  cases c with
  | true => exact ⟨H1, I1, q1⟩
  | false => exact hb wh pins s1 σ H1 Q I1 q1
theorem pt_not (ha : PT X a tA) : PT X (.UnaryOp .Not a pos) (tNot tA) := by
  intro pins s σ H Q I h
  exact isTrue_not (ha pins s σ H (fun c H1 => Q (!c) H1) I h)
/-- .. as values (bools) -/
def tAndV (ta tb : TE) : TE := fun σ H Q => ta σ H fun x H1 => ∃ c, x = .bl c ∧ if c = true then tb σ H1 Q else Q (.bl false) H1
def tNotV (ta : TE) : TE := fun σ H Q => ta σ H fun x H1 => ∃ c, x = .bl c ∧ Q (.bl (!c)) H1
theorem pe_one {op} {t : TE} (h : PE X a t) : PE X (.BoolOp op [a] pos) t := fun pins s σ H Q I hw => BoolOp_one (h pins s σ H Q I hw)
theorem pe_and (ha : PE X a ta) (hb : PE X (.BoolOp .And (b :: rest) pos) tb) : PE X (.BoolOp .And (a :: b :: rest) pos) (tAndV ta tb) := by
  intro pins s σ H Q I h
  refine BoolOp_and (thn (ha pins s σ H _ I h) fun v s1 ⟨x, H1, I1, r1, q1⟩ => ?_)
  obtain ⟨c, rfl, q1⟩ := q1
  cases r1
  refine wpAny_truthy_bool ?_
  cases c with
  | true => exact hb pins s1 σ H1 Q I1 q1
  | false => exact ⟨.bl false, H1, I1, rfl, q1⟩
theorem pe_not (ha : PE X a ta) : PE X (.UnaryOp .Not a pos) (tNotV ta) := by
  intro pins s σ H Q I h
  refine UnaryOp_ (thn (ha pins s σ H _ I h) fun v s1 ⟨x, H1, I1, r1, q1⟩ => ?_)
  obtain ⟨c, rfl, q1⟩ := q1
  cases r1
  exact not_of (wpAny_truthy_bool ⟨.bl (!c), H1, I1, rfl, q1⟩)
end
end L2

namespace L2
open PySem PySem.Spec PyProof.Rows

/-! ### a list, a tuple that is read: tracked, frozen, or an object of the module -/
def SqL (K : PySem.W.Frag) (H : Hp) (a : Addr) (xs : List V) : Prop :=
  Rd H a (.lst xs) ∨
    ∃ (o : Obj) (its : Array Value) (n : Nat), K.lookup a = some o ∧ o.cls = .type "list" ∧ o.dict = none ∧ o.data = .seq its n ∧ its.size ≤ sizeLine ∧ Vals xs its.toList
def SqT (K : PySem.W.Frag) (H : Hp) (a : Addr) (xs : List V) : Prop :=
  Rd H a (.tup xs) ∨
    ∃ (o : Obj) (its : Array Value) (n : Nat), K.lookup a = some o ∧ o.cls = .type "tuple" ∧ o.data = .seq its n ∧ its.size ≤ sizeLine ∧ Vals xs its.toList
def absV : Value → Option V
  | .none => some .non
  | .bool b => some (.bl b)
  | .int i _ => some (.int i)
  | .str x _ => some (.str x)
  | .bytes b _ => some (.byt b)
  | .float b _ => some (.flt b)
  | .ref a => some (.ref a)
  | .type n => some (.ty n)
  | _ => none
theorem RelV.abs {x : V} {u : Value} (r : RelV x u) : absV u = some x := by
  cases x with
  | non => cases r; rfl
  | bl _ => cases r; rfl
  | int _ => obtain ⟨t, rfl⟩ := r; rfl
  | str _ => obtain ⟨t, rfl⟩ := r; rfl
  | byt _ => obtain ⟨t, rfl⟩ := r; rfl
  | flt _ => obtain ⟨t, rfl⟩ := r; rfl
  | ref _ => cases r; rfl
  | ty _ => cases r; rfl
theorem RelV.inj {x y : V} {u : Value} (r : RelV x u) (q : RelV y u) : x = y := Option.some.inj (r.abs.symm.trans q.abs)
theorem Vals.inj : ∀ {xs ys : List V} {us : List Value}, Vals xs us → Vals ys us → xs = ys
  | _, _, _, .nil, .nil => rfl
  | _, _, _, .cons r t, .cons r' t' => by rw [r.inj r', Vals.inj t t']
section
variable {X : Cx} {pins : List (Addr × Obj)} {σ : St} {H : Hp} {s : Shared} {a : Addr} {xs ys : List V}
theorem SqL.of {K : PySem.W.Frag} (h : H a = some (.lst xs)) : SqL K H a xs := .inl (.inl h)
theorem SqT.of {K : PySem.W.Frag} (h : H a = some (.tup xs)) : SqT K H a xs := .inl (.inl h)
theorem Inv.list (I : Inv X pins σ H s) (h : SqL X.K H a xs) : ∃ its : List Value, Vals xs its ∧ PlainL s.heap a its.toArray ∧ xs.length ≤ sizeLine := by
  rcases h with h | ⟨o, its, n, hk, hc, hd, hs, hz, r⟩
  · obtain ⟨z, its, n, r, e⟩ := h.ok I.hok
    exact ⟨its, r, ⟨_, n, e, rfl, rfl, rfl⟩, z⟩
  · refine ⟨its.toList, r, ⟨o, n, I.kIn a o hk, hc, hd, by simpa using hs⟩, ?_⟩
    have e := r.length
    simp only [Array.length_toList] at e
    omega
theorem Inv.tuple (I : Inv X pins σ H s) (h : SqT X.K H a xs) : ∃ its : List Value, Vals xs its ∧ IsTup s.heap a its.toArray ∧ xs.length ≤ sizeLine := by
  rcases h with h | ⟨o, its, n, hk, hc, hs, hz, r⟩
  · obtain ⟨z, its, r, p⟩ := h.ok I.hok
    exact ⟨its, r, p, z⟩
  · refine ⟨its.toList, r, ⟨o, I.kIn a o hk, hc, n, by simpa using hs⟩, ?_⟩
    have e := r.length
    simp only [Array.length_toList] at e
    omega
theorem Inv.list_inj (I : Inv X pins σ H s) (h : SqL X.K H a xs) (h' : SqL X.K H a ys) : xs = ys := by
  obtain ⟨its, r, ⟨o, n, e, _, _, d⟩, _⟩ := I.list h
  obtain ⟨its', r', ⟨o', n', e', _, _, d'⟩, _⟩ := I.list h'
  rw [e] at e'; cases e'
  rw [d] at d'
  injection d' with d1 _
  have : its = its' := by simpa using congrArg Array.toList d1
  subst this
  exact r.inj r'
theorem Inv.tuple_inj (I : Inv X pins σ H s) (h : SqT X.K H a xs) (h' : SqT X.K H a ys) : xs = ys := by
  obtain ⟨its, r, ⟨o, e, _, n, d⟩, _⟩ := I.tuple h
  obtain ⟨its', r', ⟨o', e', _, n', d'⟩, _⟩ := I.tuple h'
  rw [e] at e'; cases e'
  rw [d] at d'
  injection d' with d1 _
  have : its = its' := by simpa using congrArg Array.toList d1
  subst this
  exact r.inj r'
end

/-! ### another wish about exceptions -/
abbrev Cx.wish (X : Cx) (E : Value → Shared → Prop) : Cx := { X with xe := E }
/-- no exception leaves -/
abbrev Cx.nox (X : Cx) : Cx := X.wish fun _ _ => False
theorem Cx.Ok.wish {X : Cx} (ok : X.Ok) (E : Value → Shared → Prop) : (X.wish E).Ok :=
  ⟨ok.mod, ok.kind, ok.glob, ok.blt, ok.above, ok.inj, ok.has, ok.cab, ok.hd, ok.frames, ok.stk, ok.exf, ok.bs, ok.bsz, ok.noex, ok.exfs, ok.funs, ok.frf⟩
theorem Cx.Ok.unwish {X : Cx} {E : Value → Shared → Prop} (ok : (X.wish E).Ok) : X.Ok :=
  ⟨ok.mod, ok.kind, ok.glob, ok.blt, ok.above, ok.inj, ok.has, ok.cab, ok.hd, ok.frames, ok.stk, ok.exf, ok.bs, ok.bsz, ok.noex, ok.exfs, ok.funs, ok.frf⟩
section
variable {X : Cx} {pins : List (Addr × Obj)} {σ : St} {H : Hp} {s : Shared} {E : Value → Shared → Prop}
theorem Inv.wish (I : Inv X pins σ H s) (E : Value → Shared → Prop) : Inv (X.wish E) pins σ H s := ⟨I.ok.wish E, I.os, I.bare, I.base, I.loc, I.cell, I.free, I.freeC, I.pin, I.hok, I.len⟩
theorem Inv.unwish (I : Inv (X.wish E) pins σ H s) : Inv X pins σ H s := ⟨I.ok.unwish, I.os, I.bare, I.base, I.loc, I.cell, I.free, I.freeC, I.pin, I.hok, I.len⟩
theorem SP.unwish {D : Ends} {f : Flow} {s' : Shared} (h : SP (X.wish E) pins D f s') : SP X pins D f s' := by
  cases f with
  | next => obtain ⟨σ', H', I, q⟩ := h; exact ⟨σ', H', I.unwish, q⟩
  | brk => obtain ⟨σ', H', I, q⟩ := h; exact ⟨σ', H', I.unwish, q⟩
  | cont => obtain ⟨σ', H', I, q⟩ := h; exact ⟨σ', H', I.unwish, q⟩
  | ret u => obtain ⟨v, σ', H', I, r, q⟩ := h; exact ⟨v, σ', H', I.unwish, r, q⟩
theorem PSs.nox {st : List Stmt} {t : TS} (h : PSs X.nox st t) : PSs X st t := fun pins s σ H D I hw =>
  wpAny_mono (h pins s σ H D (I.wish _) hw) (fun _ _ q => q.unwish) fun _ _ z => False.elim z
end

/-! ### blocks and small statements -/
section
variable {X : Cx} {st : Stmt} {rest : List Stmt} {t u : TS} {e : Expr} {te : TE} {pos : Pos}
def tNext : TS := fun D σ H => D.nx σ H
def tSeq (t u : TS) : TS := fun D σ H => t { D with nx := u D } σ H
theorem pss_nil : PSs X [] tNext := fun _ _ σ H _ I h => wpAny_execs_nil ⟨σ, H, I, h⟩
theorem pss_cons (h1 : PS X st t) (h2 : PSs X rest u) : PSs X (st :: rest) (tSeq t u) := by
  intro pins s σ H D I h
  refine wpAny_execs_cons (thn (h1 pins s σ H { D with nx := u D } I h) fun f s1 q => ?_)
  cases f with
  | next =>
    obtain ⟨σ', H', I', q⟩ := q
    exact h2 pins s1 σ' H' D I' q
  | ret v => exact q
  | brk => exact q
  | cont => exact q
theorem pss_one (h1 : PS X st t) : PSs X [st] t := by
  intro pins s σ H D I h
  refine wpAny_execs_cons (thn (h1 pins s σ H D I h) fun f s1 q => ?_)
  cases f with
  | next => exact wpAny_execs_nil q
  | ret v => exact q
  | brk => exact q
  | cont => exact q
/-- in a def's body nothing is shown -/
theorem Inv.quiet {pins : List (Addr × Obj)} {σ : St} {H : Hp} {s : Shared} (I : Inv X pins σ H s) : interactive X.env = false := by simp [interactive, I.ok.kind]
/-- an expression whose value is dropped -/
def tDrop (te : TE) : TS := fun D σ H => te σ H fun _ H1 => D.nx σ H1
theorem ps_expr (he : PE X e te) (hs : swapsWith e none pos.line X.env = pure false := by rfl) : PS X (.Expr e pos) (tDrop te) := by
  intro pins s σ H D I h
  exact wpAny_Expr_any (thn (he pins s σ H _ I h) fun v s1 ⟨x, H1, I1, r1, q1⟩ => ⟨σ, H1, I1, q1⟩) I.quiet hs
def tRet (te : TE) : TS := fun D σ H => te σ H D.rt
theorem ps_ret (he : PE X e te) : PS X (.Return (some e) pos) (tRet te) := by
  intro pins s σ H D I h
  exact wpAny_Return_some (thn (he pins s σ H _ I h) fun v s1 ⟨x, H1, I1, r1, q1⟩ => ⟨x, σ, H1, I1, r1, q1⟩)
def tIfS (c : TT) (t u : TS) : TS := fun D σ H => c σ H fun b H1 => if b = true then t D σ H1 else u D σ H1
theorem ps_if {c : Expr} {a b : List Stmt} {tc : TT} (hc : PT X c tc) (ha : PSs X a t) (hb : PSs X b u) : PS X (.If c a b pos) (tIfS tc t u) := by
  intro pins s σ H D I h
  refine wpAny_If (thn (hc pins s σ H _ I h) fun d s1 ⟨H1, I1, q1⟩ => ?_)
  cases d with
  | true => exact ha pins s1 σ H1 D I1 q1
  | false => exact hb pins s1 σ H1 D I1 q1
end

/-! ### targets -/
abbrev TG := V → St → Hp → (St → Hp → Prop) → Prop
abbrev TGs := List V → St → Hp → (St → Hp → Prop) → Prop
def PG (X : Cx) (target : Expr) (t : TG) : Prop :=
  ∀ (pins : List (Addr × Obj)) (s : Shared) (σ : St) (H : Hp) (v : V) (u : Value) (Q : St → Hp → Prop), Inv X pins σ H s → RelV v u → t v σ H Q →
    wpAny (model X.prog X.w) X.A (assign target X.env u) (fun _ s' => ∃ σ' H', Inv X pins σ' H' s' ∧ Q σ' H') X.xe s
/-- several targets, one after another -/
def PGs (X : Cx) (ts : List Expr) (t : TGs) : Prop :=
  ∀ (pins : List (Addr × Obj)) (s : Shared) (σ : St) (H : Hp) (vs : List V) (us : List Value) (Q : St → Hp → Prop), Inv X pins σ H s → Vals vs us → t vs σ H Q →
    wpAny (model X.prog X.w) X.A (assignInOrder ((assignEach ts X.env).map (·.2)) us) (fun _ s' => ∃ σ' H', Inv X pins σ' H' s' ∧ Q σ' H') X.xe s
section
variable {X : Cx} {pos : Pos}
def gName (i : Nat) : TG := fun v σ H Q => Q (σ.set i (some v)) H
theorem pg_name {i : Nat} {x : Str} (hN : X.N.Nodup) (hi : X.N[i]? = some x) (hx : Loc X.env.scope x) (hf : X.fn x = true ∨ X.env.scope.names.lookup x = some .local := by first | exact .inl rfl | exact .inr rfl | assumption) : PG X (.Name x pos) (gName i) := by
  intro pins s σ H v u Q I r h
  exact wpAny_assign_Name (store_ok I hN hi hx r (fun s' I' => ⟨_, H, I', h⟩) hf)
def gNil : TGs := fun vs σ H Q => vs = [] ∧ Q σ H
def gCons (t : TG) (u : TGs) : TGs := fun vs σ H Q => ∃ v r, vs = v :: r ∧ t v σ H fun σ' H' => u r σ' H' Q
theorem pgs_nil : PGs X [] gNil := by
  intro pins s σ H vs us Q I r h
  obtain ⟨e, h⟩ := h
  subst e
  cases r
  exact assignInOrder_nil ⟨σ, H, I, h⟩
theorem pgs_cons {e : Expr} {es : List Expr} {t : TG} {u : TGs} (h1 : PG X e t) (h2 : PGs X es u)
    (hs : (assignEach (e :: es) X.env).map (·.2) = assign e X.env :: (assignEach es X.env).map (·.2) := by rfl) : PGs X (e :: es) (gCons t u) := by
  intro pins s σ H vs us Q I r h
  obtain ⟨v, vr, e1, h⟩ := h
  subst e1
  cases r with
  | cons r rr =>
    rw [hs]
    refine assignInOrder_cons (thn (h1 pins s σ H _ _ _ I r h) fun _ s1 ⟨σ1, H1, I1, q1⟩ => ?_)
    exact h2 pins s1 σ1 H1 _ _ Q I1 rr q1
/-- (a, b, ..) = a tuple of that length -/
def gTup (K : PySem.W.Frag) (n : Nat) (t : TGs) : TG := fun v σ H Q => ∃ a xs, v = .ref a ∧ SqT K H a xs ∧ xs.length = n ∧ t xs σ H Q
theorem pg_tup {es : List Expr} {k : Nat} {t : TGs} {n : Nat} (hc : X.calm = true) (h : PGs X es t)
    (hn : (assignEach es X.env).length = n := by rfl) (hst : (assignEach es X.env).findIdx? (·.1) = none := by rfl) : PG X (.Tuple es k pos) (gTup X.K n t) := by
  intro pins s σ H v u Q I r hw
  obtain ⟨a, xs, e1, hq, hl, hw⟩ := hw
  subst e1
  cases r
  obtain ⟨its, rv, ht, hz⟩ := I.tuple hq
  refine assign_Tuple_tuple (I.ok.hd hc) ht (by simp [hn, ← hl, rv.length]) hst fun h' hx => ?_
  have I1 : Inv X pins σ H { s with heap := h' } := I.kept (t' := s.toks) fun b o e => hx b o (Nat.ne_of_lt (Heap.lt_size e)) e
  exact h pins _ σ H xs _ Q I1 (by simpa using rv) hw
/-- target = value -/
def tAsg (te : TE) (g : TG) : TS := fun D σ H => te σ H fun x H1 => g x σ H1 D.nx
theorem ps_asg {tg e : Expr} {te : TE} {g : TG} (he : PE X e te) (hg : PG X tg g) (hs : swapsWithSole [tg] e pos.line X.env = pure false := by rfl) (hw : swappedStores [tg] e X.env = pure none := by rfl)
    (h1 : (assignEach [tg] X.env).map (·.2) = [assign tg X.env] := by rfl) : PS X (.Assign [tg] e pos) (tAsg te g) := by
  intro pins s σ H D I h
  refine wpAny_Assign_stores (thn (he pins s σ H _ I h) fun v s1 ⟨x, H1, I1, r1, q1⟩ => ?_) hs hw
  rw [h1]
  exact thn (hg pins s1 σ H1 x v _ I1 r1 q1) fun _ s2 q => q
/-- name = value -/
theorem ps_set {i : Nat} {x : Str} {e : Expr} {te : TE} {pos' : Pos} (hN : X.N.Nodup) (hi : X.N[i]? = some x) (hx : Loc X.env.scope x) (he : PE X e te) (hs : swapsWith e (some (.Name x pos')) pos.line X.env = pure false := by rfl) (hf : X.fn x = true ∨ X.env.scope.names.lookup x = some .local := by first | exact .inl rfl | exact .inr rfl | assumption) :
    PS X (.Assign [.Name x pos'] e pos) (tAsg te (gName i)) := by
  intro pins s σ H D I h
  refine wpAny_Assign_Name (thn (he pins s σ H _ I h) fun v s1 ⟨y, H1, I1, r1, q1⟩ => ?_) hs
  exact store_ok I1 hN hi hx r1 (fun s2 I2 => ⟨_, H1, I2, q1⟩) hf
end

/-! ### while -/
section
variable {X : Cx} {pos : Pos}
/-- the invariant W with its measure -/
def tWhile (c : TT) (tb : TS) : TS := fun D σ H => ∃ W : Nat → St → Hp → Prop, (∃ m, W m σ H) ∧ ∀ m σ H, W m σ H →
  c σ H fun b H1 => if b = true then ∃ N : St → Hp → Prop, (∀ σ' H', N σ' H' → ∃ m', m' < m ∧ W m' σ' H') ∧ tb { D with nx := N, ct := N, bk := D.nx } σ H1 else D.nx σ H1
theorem ps_while {c : Expr} {body : List Stmt} {tc : TT} {tb : TS} (hp : PassesOwn (model X.prog X.w) X.A X.env X.xe) (hc : PT X c tc) (hb : PSs X body tb) : PS X (.While c body [] pos) (tWhile tc tb) := by
  intro pins s σ H D I h
  obtain ⟨W, ⟨m0, w0⟩, turn⟩ := h
  refine wpAny_While (codeAny_whileLoop (fun n s' => ∃ σ' H', Inv X pins σ' H' s' ∧ W n σ' H') ?_ m0 ⟨σ, H, I, w0⟩)
  rintro n s1 ⟨σ1, H1, I1, w1⟩
  refine wpAny_passesOwn hp (thn (hc pins s1 σ1 H1 _ I1 (turn n σ1 H1 w1)) fun b s2 ⟨H2, I2, q2⟩ => ?_)
  cases b with
  | true =>
    obtain ⟨N, hN, q2⟩ := q2
    rw [if_pos rfl]
    refine wpAny_passesOwn hp (thn (hb pins s2 σ1 H2 _ I2 q2) fun f s3 q3 => ?_)
    cases f with
    | next =>
      obtain ⟨σ3, H3, I3, n3⟩ := q3
      obtain ⟨m', hm, w3⟩ := hN σ3 H3 n3
      exact ⟨m', hm, σ3, H3, I3, w3⟩
    | cont =>
      obtain ⟨σ3, H3, I3, n3⟩ := q3
      obtain ⟨m', hm, w3⟩ := hN σ3 H3 n3
      exact ⟨m', hm, σ3, H3, I3, w3⟩
    | brk => exact q3
    | ret v => exact q3
  | false =>
    rw [if_neg Bool.false_ne_true]
    exact wpAny_execs_nil ⟨σ1, H2, I2, q2⟩
end

/-! ### what a loop or a comprehension walks -/
/-- at turn i: it yields x (the heap may grow), or it stops -/
structure It where
  go : Nat → Hp → Prop
  yld : Nat → Hp → V → Hp → Prop
  stop : Nat → Hp → Prop
/-- the iterator's own objects may turn: they are not the frame's, not pinned, younger than the entry (or a comprehension's own) -/
def FpOk (X : Cx) (pins : List (Addr × Obj)) (H : Hp) (b : Addr) : Prop :=
  H b = none ∧ b ≠ X.env.locals ∧ b ∉ X.fs ∧ (b ∈ X.ex ∨ X.s₀.heap.objs.size ≤ b) ∧ (∀ x c, X.env.cells.lookup x = some c → c ≠ b) ∧ ∀ p ∈ X.pn ++ pins, p.1 ≠ b
theorem Inv.fpOk {X : Cx} {pins : List (Addr × Obj)} {σ : St} {H H' : Hp} {s : Shared} {b : Addr} (I : Inv X pins σ H s) (hb : s.heap.objs.size ≤ b) (hn : H' b = none) : FpOk X pins H' b := by
  refine ⟨hn, Nat.ne_of_gt (Nat.lt_of_lt_of_le I.lt hb), I.nofs hb, .inr (Nat.le_trans I.sz hb), fun x c e z => ?_, fun p hp z => ?_⟩
  · obtain ⟨v, q⟩ := I.cell x c e
    exact absurd (Nat.lt_of_lt_of_le q.lt (by rw [z]; exact hb)) (Nat.lt_irrefl _)
  · exact absurd (Nat.lt_of_lt_of_le (Heap.lt_size (I.pin p hp).1) (by rw [z]; exact hb)) (Nat.lt_irrefl _)
structure Turn (P : Program) (w : World) (K : PySem.W.Frag) (tg : Expr) (J : It) (fp : List Addr) (it : Addr) (tn : Nat → Heap → Prop) : Prop where
  mem : it ∈ fp
  obj : ∀ i h, tn i h → ∀ b ∈ fp, ∃ o, h.get? b = some o ∧ ∀ v, o.data ≠ .cell v
  keep : ∀ i h h', tn i h → (∀ b ∈ fp, ∀ o, h.get? b = some o → h'.get? b = some o) → tn i h'
  item : ∀ (X : Cx), X.prog = P → X.w = w → X.K = K → X.calm = true → ∀ (i : Nat) (pins : List (Addr × Obj)) (s : Shared) (σ : St) (H : Hp) (E : Value → Shared → Prop), Inv X pins σ H s → (∀ b ∈ fp, FpOk X pins H b) → tn i s.heap → J.go i H →
    wpAny (model P w) X.A (pyNext (.ref it)) (fun r s1 => ∃ u, r = some u ∧
      wpAny (model P w) X.A (letOwnedTupleGo tg (.ref it) u) (fun _ s2 => ∃ x H', Inv X pins σ H' s2 ∧ RelV x u ∧ J.yld i H x H' ∧ tn (i + 1) s2.heap ∧ ∀ b ∈ fp, H' b = none) E s1) E s
  done : ∀ (X : Cx), X.prog = P → X.w = w → X.K = K → X.calm = true → ∀ (i : Nat) (pins : List (Addr × Obj)) (s : Shared) (σ : St) (H : Hp) (E : Value → Shared → Prop), Inv X pins σ H s → (∀ b ∈ fp, FpOk X pins H b) → tn i s.heap → J.stop i H →
    wpAny (model P w) X.A (pyNext (.ref it)) (fun r s1 => r = none ∧ Inv X pins σ H s1) E s
  self : ∀ (A : Around) (i : Nat) (s : Shared) (Q : Value → Shared → Prop) (E : Value → Shared → Prop), tn i s.heap → Q (.ref it) s → wpAny (model P w) A (pyIter (.ref it)) Q E s
abbrev TI := St → Hp → (It → Hp → Prop) → Prop
/-- an iterator has come -/
def PIE (X : Cx) (pins : List (Addr × Obj)) (σ : St) (tg : Expr) (R : It → Hp → Prop) (itv : Value) (s2 : Shared) : Prop :=
  ∃ (it : Addr) (fp : List Addr) (tn : Nat → Heap → Prop) (J : It) (H' : Hp), itv = .ref it ∧ Inv X pins σ H' s2 ∧ Turn X.prog X.w X.K tg J fp it tn ∧ tn 0 s2.heap ∧ (∀ b ∈ fp, FpOk X pins H' b) ∧ R J H'
def PI (X : Cx) (tg iter : Expr) (wi : TI) : Prop :=
  ∀ (pins : List (Addr × Obj)) (s : Shared) (σ : St) (H : Hp) (R : It → Hp → Prop), Inv X pins σ H s → wi σ H R →
    wpAny (model X.prog X.w) X.A (eval iter X.env) (fun v s1 => wpAny (model X.prog X.w) X.A (pyIter v) (PIE X pins σ tg R) X.xe s1) X.xe s

/-- the step ahead of the store is nothing for an iterator that keeps no tuple -/
theorem go_of {M : Model} {A : Around} {E : Value → Shared → Prop} {s : Shared} {tg : Expr} {it : Addr} {u : Value} {o : Obj} {n : String} {vs : Array Value} {Q : Unit → Shared → Prop} (ho : s.heap.get? it = some o) (hc : o.cls = .type n) (hd : o.data = .fields vs)
    (hn : ["enumerate", "zip", "dict_itemiterator", "dict_reverseitemiterator", "odict_iterator", "itertools.zip_longest", "itertools.pairwise"].contains n = false) (hQ : Q () s) : wpAny M A (letOwnedTupleGo tg (.ref it) u) Q E s := by
  unfold letOwnedTupleGo
  cases tg <;> first
    | exact wpAny_pure hQ
    | (cases u <;> first
        | exact wpAny_pure hQ
        | (refine wpAny_bind (wpAny_load ho ?_)
           rw [hc, hd]
           show wpAny M A (if (["enumerate", "zip", "dict_itemiterator", "dict_reverseitemiterator", "odict_iterator", "itertools.zip_longest", "itertools.pairwise"].contains n && vs[0]? == some (rawInt _)) = true then _ else _) Q E s
           rw [if_neg (by intro h; rw [hn, Bool.false_and] at h; cases h)]
           exact wpAny_pure hQ))

/-- the list at a, as it stands at each turn (a loop may append to it) -/
def Itl (K : PySem.W.Frag) (a : Addr) : It :=
  ⟨fun i H => ∃ xs x, SqL K H a xs ∧ xs[i]? = some x, fun i H x H' => H' = H ∧ ∀ xs, SqL K H a xs → xs[i]? = some x, fun i H => ∃ xs, SqL K H a xs ∧ xs.length ≤ i⟩
def Itt (K : PySem.W.Frag) (a : Addr) : It :=
  ⟨fun i H => ∃ xs x, SqT K H a xs ∧ xs[i]? = some x, fun i H x H' => H' = H ∧ ∀ xs, SqT K H a xs → xs[i]? = some x, fun i H => ∃ xs, SqT K H a xs ∧ xs.length ≤ i⟩
/-- lo, lo + 1, .. (n of them) -/
def Itr (lo : Int) (n : Nat) : It := ⟨fun i _ => i < n, fun i H x H' => H' = H ∧ x = .int (lo + i), fun i _ => n ≤ i⟩
theorem turn_list {P : Program} {w : World} {K : PySem.W.Frag} {tg : Expr} (a it : Addr) : Turn P w K tg (Itl K a) [it] it (fun i h => h.IsListIter it a i) where
  mem := by simp
  obj := fun i h st b hb => by
    have e : b = it := by simpa using hb
    subst e
    obtain ⟨o, e, c, d⟩ := st
    exact ⟨o, e, fun v z => by rw [d] at z; cases z⟩
  keep := fun i h h' st k => st.at fun o e => k it (by simp) o e
  item := by
    intro X hP hw hK hc i pins s σ H E I hf st hg
    subst hP hw hK
    obtain ⟨xs, x, hq, hx⟩ := hg
    obtain ⟨its, rv, p, hz⟩ := I.list hq
    obtain ⟨u, hu, ru⟩ := rv.get hx
    obtain ⟨f0, f1, f2, f3, f4, f5⟩ := hf it (by simp)
    refine wpAny_pyNext_list_item st p.isList (x := u) (by simpa using hu) fun h' st' sb => ?_
    have I1 : Inv X pins σ H { s with heap := h' } := I.turned (t' := s.toks) (fun b o hb e => (sb.2 b hb).trans e) f0 f1 f3 f4 f5
    obtain ⟨o, e, c, d⟩ := id st'
    exact ⟨u, rfl, go_of (s := { s with heap := h' }) e c d (by decide) ⟨x, H, I1, ru, ⟨rfl, fun ys hy => by rw [I.list_inj hy hq]; exact hx⟩, st', fun b hb => (hf b hb).1⟩⟩
  done := by
    intro X hP hw hK hc i pins s σ H E I hf st hg
    subst hP hw hK
    obtain ⟨xs, hq, hx⟩ := hg
    obtain ⟨its, rv, p, hz⟩ := I.list hq
    obtain ⟨f0, f1, f2, f3, f4, f5⟩ := hf it (by simp)
    have hl := rv.length
    exact wpAny_pyNext_list_end (I.ok.hd hc) st p.isList (by simp; omega) fun h' eb => ⟨rfl, I.turned (t' := s.toks) (fun b o hb e => eb b o hb e) f0 f1 f3 f4 f5⟩
  self := fun _ _ _ _ _ st h => wpAny_pyIter_listiter st h
theorem turn_tuple {P : Program} {w : World} {K : PySem.W.Frag} {tg : Expr} (a it : Addr) : Turn P w K tg (Itt K a) [it] it (fun i h => h.IsTupleIter it a i) where
  mem := by simp
  obj := fun i h st b hb => by
    have e : b = it := by simpa using hb
    subst e
    obtain ⟨o, e, c, d⟩ := st
    exact ⟨o, e, fun v z => by rw [d] at z; cases z⟩
  keep := fun i h h' st k => st.at fun o e => k it (by simp) o e
  item := by
    intro X hP hw hK hc i pins s σ H E I hf st hg
    subst hP hw hK
    obtain ⟨xs, x, hq, hx⟩ := hg
    obtain ⟨its, rv, p, hz⟩ := I.tuple hq
    obtain ⟨u, hu, ru⟩ := rv.get hx
    obtain ⟨f0, f1, f2, f3, f4, f5⟩ := hf it (by simp)
    refine wpAny_pyNext_tuple_item st (show s.heap.IsTuple a its.toArray from p) (x := u) (by simpa using hu) fun h' st' sb => ?_
    have I1 : Inv X pins σ H { s with heap := h' } := I.turned (t' := s.toks) (fun b o hb e => (sb.2 b hb).trans e) f0 f1 f3 f4 f5
    obtain ⟨o, e, c, d⟩ := id st'
    exact ⟨u, rfl, go_of (s := { s with heap := h' }) e c d (by decide) ⟨x, H, I1, ru, ⟨rfl, fun ys hy => by rw [I.tuple_inj hy hq]; exact hx⟩, st', fun b hb => (hf b hb).1⟩⟩
  done := by
    intro X hP hw hK hc i pins s σ H E I hf st hg
    subst hP hw hK
    obtain ⟨xs, hq, hx⟩ := hg
    obtain ⟨its, rv, p, hz⟩ := I.tuple hq
    obtain ⟨f0, f1, f2, f3, f4, f5⟩ := hf it (by simp)
    have hl := rv.length
    exact wpAny_pyNext_tuple_end (I.ok.hd hc) st (show s.heap.IsTuple a its.toArray from p) (by simp; omega) fun h' eb => ⟨rfl, I.turned (t' := s.toks) (fun b o hb e => eb b o hb e) f0 f1 f3 f4 f5⟩
  self := fun _ _ _ _ _ st h => wpAny_pyIter_tupleiter st h
theorem turn_range {P : Program} {w : World} {K : PySem.W.Frag} {tg : Expr} (it : Addr) (lo : Int) (n : Nat) : Turn P w K tg (Itr lo n) [it] it (fun i h => IsRangeIter h it (lo + (i : Nat) * 1) ((n : Int) - (i : Nat)) 1) where
  mem := by simp
  obj := fun i h st b hb => by
    have e : b = it := by simpa using hb
    subst e
    exact ⟨_, st, fun v z => by
      have z' : Data.fields _ = Data.cell v := z
      cases z'⟩
  keep := fun i h h' st k => k it (by simp) _ st
  item := by
    intro X hP hw hK hc i pins s σ H E I hf st hg
    subst hP hw hK
    obtain ⟨f0, f1, f2, f3, f4, f5⟩ := hf it (by simp)
    have W := Walks.range (prog := X.prog) (w := X.w) (I.ok.hd hc) it lo 1 n
    refine W.item i s _ _ hg st fun v h' tk hv st' kk => ?_
    obtain ⟨t, rfl⟩ := hv
    have I1 : Inv X pins σ H { s with heap := h', toks := tk } := I.turned (fun b o hb e => kk b o (by simpa using hb) e) f0 f1 f3 f4 f5
    refine ⟨_, rfl, go_of (s := { s with heap := h', toks := tk }) (n := "range_iterator") st' rfl rfl (by decide) ⟨.int (lo + i), H, I1, ⟨t, ?_⟩, ⟨rfl, rfl⟩, st', fun b hb => (hf b hb).1⟩⟩
    rw [Int.mul_one]
  done := by
    intro X hP hw hK hc i pins s σ H E I hf st hg
    subst hP hw hK
    obtain ⟨f0, f1, f2, f3, f4, f5⟩ := hf it (by simp)
    exact wpAny_pyNext_range_end (I.ok.hd hc) st (by have : n ≤ i := hg; omega) fun h' eb => ⟨rfl, I.turned (t' := s.toks) (fun b o hb e => eb b o hb e) f0 f1 f3 f4 f5⟩
  self := fun _ _ _ _ _ st h => wpAny_pyIter_rangeiter st h
end L2

namespace L2
open PySem PySem.Spec PyProof.Rows
section
variable {X : Cx} {tg : Expr}
def iList (K : PySem.W.Frag) (tl : TE) : TI := fun σ H R => tl σ H fun x H1 => ∃ a, x = .ref a ∧ (∃ xs, SqL K H1 a xs) ∧ R (Itl K a) H1
def iTup (K : PySem.W.Frag) (tl : TE) : TI := fun σ H R => tl σ H fun x H1 => ∃ a, x = .ref a ∧ (∃ xs, SqT K H1 a xs) ∧ R (Itt K a) H1
theorem pi_list {l : Expr} {tl : TE} (hl : PE X l tl) : PI X tg l (iList X.K tl) := by
  intro pins s σ H R I h
  refine thn (hl pins s σ H _ I h) fun v s1 ⟨x, H1, I1, r1, q1⟩ => ?_
  obtain ⟨a, e, ⟨xs, hq⟩, q⟩ := q1
  subst e
  cases r1
  obtain ⟨its, rv, p, hz⟩ := I1.list hq
  refine wpAny_pyIter_list p.isList ?_
  refine ⟨s1.heap.objs.size, [s1.heap.objs.size], _, _, H1, rfl, I1.kept (t' := s1.toks) fun b o e => Heap.get?_push_of_some _ e, turn_list a _, ⟨_, Heap.get?_push_size _ rfl, rfl, rfl⟩, fun b hb => ?_, q⟩
  have e : b = s1.heap.objs.size := by simpa using hb
  subst e
  exact I1.fpOk (Nat.le_refl _) (I1.hok.fresh (Nat.le_refl _))
theorem pi_tup {l : Expr} {tl : TE} (hl : PE X l tl) : PI X tg l (iTup X.K tl) := by
  intro pins s σ H R I h
  refine thn (hl pins s σ H _ I h) fun v s1 ⟨x, H1, I1, r1, q1⟩ => ?_
  obtain ⟨a, e, ⟨xs, hq⟩, q⟩ := q1
  subst e
  cases r1
  obtain ⟨its, rv, p, hz⟩ := I1.tuple hq
  refine wpAny_pyIter_tuple (show s1.heap.IsTuple a its.toArray from p) ?_
  refine ⟨s1.heap.objs.size, [s1.heap.objs.size], _, _, H1, rfl, I1.kept (t' := s1.toks) fun b o e => Heap.get?_push_of_some _ e, turn_tuple a _, ⟨_, Heap.get?_push_size _ rfl, rfl, rfl⟩, fun b hb => ?_, q⟩
  have e : b = s1.heap.objs.size := by simpa using hb
  subst e
  exact I1.fpOk (Nat.le_refl _) (I1.hok.fresh (Nat.le_refl _))
/-- a range object just made, walked -/
theorem range_it {pins : List (Addr × Obj)} {σ : St} {H : Hp} {s : Shared} {R : It → Hp → Prop} {E : Value → Shared → Prop} {lo hi : Int} {t u v : Tok} {tk : Nat} (I : Inv X pins σ H s) (h1 : -(2 ^ 62) ≤ lo) (h2 : lo < 2 ^ 62) (h3 : -(2 ^ 62) ≤ hi) (h4 : hi < 2 ^ 62)
    (q : R (Itr lo (hi - lo).toNat) H) : wpAny (model X.prog X.w) X.A (pyIter (.ref s.heap.objs.size)) (PIE X pins σ tg R) E { s with heap := s.heap.push { cls := .type "range", data := .fields #[.int lo t, .int hi u, .int 1 v] }, toks := tk } := by
  refine wpAny_pyIter_range (IsRange.new ..) (small_one h1 h2 h3 h4) ?_
  have I1 : Inv X pins σ H { s with heap := s.heap.push { cls := .type "range", data := .fields #[.int lo t, .int hi u, .int 1 v] }, toks := tk } := I.kept fun b o e => Heap.get?_push_of_some _ e
  refine ⟨(s.heap.push { cls := .type "range", data := .fields #[.int lo t, .int hi u, .int 1 v] }).objs.size, [(s.heap.push { cls := .type "range", data := .fields #[.int lo t, .int hi u, .int 1 v] }).objs.size], _, _, H, rfl,
    I1.kept (t' := tk) fun b o e => Heap.get?_push_of_some _ e, turn_range _ lo (hi - lo).toNat, ?_, fun b hb => ?_, q⟩
  · have e1 : lo + ((0 : Nat) : Int) * 1 = lo := by simp
    have e2 : (((hi - lo).toNat : Nat) : Int) - ((0 : Nat) : Int) = Builtin.Range.rangeSize lo hi 1 := by rw [rangeSize_one]; split <;> omega
    show IsRangeIter _ _ (lo + ((0 : Nat) : Int) * 1) ((((hi - lo).toNat : Nat) : Int) - ((0 : Nat) : Int)) 1
    rw [e1, e2]
    exact Heap.get?_push_size _ rfl
  · have e : b = (s.heap.push { cls := .type "range", data := .fields #[.int lo t, .int hi u, .int 1 v] }).objs.size := by simpa using hb
    subst e
    exact I1.fpOk (Nat.le_refl _) (I1.hok.fresh (Nat.le_refl _))
def iRng1 (ta : TA) : TI := fun σ H R => ta σ H fun vs H1 => ∃ j : Int, vs = [.int j] ∧ -(2 ^ 62) ≤ j ∧ j < 2 ^ 62 ∧ R (Itr 0 j.toNat) H1
theorem pi_range1 {a : Expr} {ta : TA} {p pos : Pos} (hg : Gl X "range") (hm : X.mg "range" = none) (ha : PA X [a] ta) (hs : starEach [a] X.env = [(false, eval a X.env)] := by rfl) : PI X tg (.Call (.Name "range" p) [a] [] pos) (iRng1 ta) := by
  intro pins s σ H R I h
  refine Call_ (ld_blt I hg hm boot_range (PyProof.Rows.callWith_type1 (thn (ha pos pins s σ H _ I h) fun us s1 ⟨vs, H1, I1, r1, q1⟩ => ?_) hs rfl))
  obtain ⟨j, e, q1, q2, q⟩ := q1
  subst e
  cases r1 with
  | cons r rr =>
    cases rr
    obtain ⟨t, rfl⟩ := r
    exact call_range_1 (range_it I1 (by omega) (by omega) q1 q2 (by simpa using q))
/-! ### for -/
/-- W: the invariant by the turn and a measure; N: what the body is to reach -/
def tFor (wi : TI) (g : TG) (tb : TS) : TS := fun D σ H => wi σ H fun J H1 => ∃ W : Nat → Nat → St → Hp → Prop, (∃ m, W 0 m σ H1) ∧ ∀ i m σ H, W i m σ H →
  (J.stop i H ∧ D.nx σ H) ∨ (J.go i H ∧ ∃ N : St → Hp → Prop, (∀ σ' H', N σ' H' → ∃ m', m' < m ∧ W (i + 1) m' σ' H') ∧ ∀ x H', J.yld i H x H' → g x σ H' fun σ2 H2 => tb { D with nx := N, ct := N, bk := D.nx } σ2 H2)
/-- the records at fp as they stand -/
def pinsAt (fp : List Addr) (h : Heap) : List (Addr × Obj) := fp.filterMap fun b => (h.get? b).map fun o => (b, o)
theorem mem_pinsAt {fp : List Addr} {h : Heap} {b : Addr} {o : Obj} (hb : b ∈ fp) (e : h.get? b = some o) : (b, o) ∈ pinsAt fp h := List.mem_filterMap.mpr ⟨b, hb, by rw [e]; rfl⟩
theorem of_pinsAt {fp : List Addr} {h : Heap} {p : Addr × Obj} (hp : p ∈ pinsAt fp h) : p.1 ∈ fp ∧ h.get? p.1 = some p.2 := by
  obtain ⟨b, hb, e⟩ := List.mem_filterMap.mp hp
  cases q : h.get? b with
  | none => rw [q] at e; cases e
  | some o =>
    rw [q] at e
    have e' : (b, o) = p := Option.some.inj e
    subst e'
    exact ⟨hb, q⟩
theorem Inv.pinned {pins : List (Addr × Obj)} {σ : St} {H : Hp} {s : Shared} {fp : List Addr} (I : Inv X pins σ H s) (hf : ∀ b ∈ fp, FpOk X pins H b) (ho : ∀ b ∈ fp, ∃ o, s.heap.get? b = some o ∧ ∀ v, o.data ≠ .cell v) : Inv X (pins ++ pinsAt fp s.heap) σ H s :=
  I.pins_of fun p hp => (List.mem_append.mp hp).elim (fun z => I.pin p (List.mem_append_right _ z)) fun z => by
    obtain ⟨hb, e⟩ := of_pinsAt z
    obtain ⟨f0, f1, f2, _⟩ := hf p.1 hb
    obtain ⟨o, e', d⟩ := ho p.1 hb
    rw [e] at e'; cases e'
    exact ⟨e, f0, f1, f2, d⟩
theorem Inv.unpinned {pins pl : List (Addr × Obj)} {σ : St} {H : Hp} {s : Shared} (I : Inv X (pins ++ pl) σ H s) : Inv X pins σ H s := I.pins_of fun p hp => I.pin p (List.mem_append_right _ (List.mem_append_left _ hp))
theorem ps_for {iter : Expr} {body : List Stmt} {wi : TI} {g : TG} {tb : TS} {pos : Pos} (hp : PassesOwn (model X.prog X.w) X.A X.env X.xe) (hc : X.calm = true) (hi : PI X tg iter wi) (hg : PG X tg g) (hb : PSs X body tb)
    (hs : ∀ x, foldedSetIterable iter X.env x = pure x := by intro _; rfl) : PS X (.For tg iter body [] pos) (tFor wi g tb) := by
  intro pins s σ H D I h
  refine wpAny_For (thn (hi pins s σ H _ I h) fun v s1 h1 => thn h1 fun itv s2 h2 => ?_) hs
  obtain ⟨it, fp, tn, J, H2, e, I2, T, st2, f2, W, ⟨m0, w0⟩, turn⟩ := h2
  subst e
  -- what stays true of the iterator's objects through the loop
  have stat : ∀ {H' : Hp}, (∀ b ∈ fp, H' b = none) → ∀ b ∈ fp, FpOk X pins H' b := fun hn b hb => ⟨hn b hb, (f2 b hb).2⟩
  refine codeAny_forLoop_any (fun n s' => ∃ i σ' H', Inv X pins σ' H' s' ∧ tn i s'.heap ∧ (∀ b ∈ fp, H' b = none) ∧ W i n σ' H') ?_ m0 ⟨0, σ, H2, I2, st2, fun b hb => (f2 b hb).1, w0⟩
  rintro n s3 ⟨i, σ3, H3, I3, st3, fr3, w3⟩
  rcases turn i n σ3 H3 w3 with ⟨stop, qn⟩ | ⟨go, N, hN, step⟩
  · refine wpAny_passesOwn hp (thn (T.done X rfl rfl rfl hc i pins s3 σ3 H3 X.xe I3 (stat fr3) st3 stop) fun r s4 ⟨hr, I4⟩ => ?_)
    subst hr
    exact wpAny_execs_nil ⟨σ3, H3, I4, qn⟩
  · refine wpAny_passesOwn hp (thn (T.item X rfl rfl rfl hc i pins s3 σ3 H3 X.xe I3 (stat fr3) st3 go) fun r s4 ⟨u, hr, h4⟩ => ?_)
    subst hr
    refine wpAny_passesOwn hp (thn h4 fun _ s5 ⟨x, H5, I5, r5, y5, st5, fr5⟩ => ?_)
    have I5' := I5.pinned (stat fr5) (T.obj _ _ st5)
    refine wpAny_passesOwn hp (thn (hg _ s5 σ3 H5 x u _ I5' r5 (step x H5 y5)) fun _ s6 ⟨σ6, H6, I6, q6⟩ => ?_)
    refine wpAny_passesOwn hp (thn (hb _ s6 σ6 H6 _ I6 q6) fun f s7 q7 => ?_)
    have again : ∀ {σ7 : St} {H7 : Hp}, Inv X (pins ++ pinsAt fp s5.heap) σ7 H7 s7 → N σ7 H7 → ∃ m, m < n ∧ ∃ i σ' H', Inv X pins σ' H' s7 ∧ tn i s7.heap ∧ (∀ b ∈ fp, H' b = none) ∧ W i m σ' H' := fun {σ7 H7} I7 n7 => by
      obtain ⟨m', hm, w7⟩ := hN σ7 H7 n7
      refine ⟨m', hm, i + 1, σ7, H7, I7.unpinned, T.keep _ _ _ st5 fun b hb o e => (I7.pin (b, o) (List.mem_append_right _ (List.mem_append_right _ (mem_pinsAt hb e)))).1, fun b hb => ?_, w7⟩
      obtain ⟨o, e, d⟩ := T.obj _ _ st5 b hb
      exact (I7.pin (b, o) (List.mem_append_right _ (List.mem_append_right _ (mem_pinsAt hb e)))).2.1
    cases f with
    | next => obtain ⟨σ7, H7, I7, n7⟩ := q7; exact again I7 n7
    | cont => obtain ⟨σ7, H7, I7, n7⟩ := q7; exact again I7 n7
    | brk => obtain ⟨σ7, H7, I7, q7⟩ := q7; exact ⟨σ7, H7, I7.unpinned, q7⟩
    | ret v => obtain ⟨x7, σ7, H7, I7, r7, q7⟩ := q7; exact ⟨x7, σ7, H7, I7.unpinned, r7, q7⟩
end

/-! ### the forms one uses -/
end L2

namespace L2
open PySem PySem.Spec PyProof.Rows

abbrev R2 := V → V → Hp → VK → Prop
/-- a two-place operation on values: f is binaryOp op, inplaceOp op or compareOp op -/
def OpR (X : Cx) (f : Value → Value → Sem Value) (r : R2) : Prop :=
  ∀ (pins : List (Addr × Obj)) (s : Shared) (σ : St) (H : Hp) (x y : V) (v u : Value) (Q : VK), Inv X pins σ H s → RelV x v → RelV y u → r x y H Q →
    wpAny (model X.prog X.w) X.A (f v u) (EP X pins σ Q) X.xe s
/-- a one-place operation -/
def UnR (X : Cx) (f : Value → Sem Value) (r : V → Hp → VK → Prop) : Prop :=
  ∀ (pins : List (Addr × Obj)) (s : Shared) (σ : St) (H : Hp) (x : V) (v : Value) (Q : VK), Inv X pins σ H s → RelV x v → r x H Q →
    wpAny (model X.prog X.w) X.A (f v) (EP X pins σ Q) X.xe s
/-- a call of a value that is known (a builtin, a type) with values -/
def CallR (X : Cx) (f : Value) (r : List V → Hp → VK → Prop) : Prop :=
  ∀ (pins : List (Addr × Obj)) (s : Shared) (σ : St) (H : Hp) (xs : List V) (us : List Value) (Q : VK), Inv X pins σ H s → Vals xs us → r xs H Q →
    wpAny (model X.prog X.w) X.A (call f us) (EP X pins σ Q) X.xe s
def tOp (r : R2) (ta tb : TE) : TE := fun σ H Q => ta σ H fun x H1 => tb σ H1 fun y H2 => r x y H2 Q
def tUn (r : V → Hp → VK → Prop) (ta : TE) : TE := fun σ H Q => ta σ H fun x H1 => r x H1 Q
/-- ints in, under C, and a value out -/
def rI (C : Int → Int → Prop) (g : Int → Int → V) : R2 := fun x y H Q => ∃ i j, x = .int i ∧ y = .int j ∧ C i j ∧ Q (g i j) H
def rI0 (g : Int → Int → V) : R2 := fun x y H Q => ∃ i j, x = .int i ∧ y = .int j ∧ Q (g i j) H
def rU (g : Int → V) : V → Hp → VK → Prop := fun x H Q => ∃ i, x = .int i ∧ Q (g i) H

section
variable {X : Cx} {a b c : Expr} {ta tb tc : TE} {pos : Pos}

theorem binT (ha : PE X a ta) (hb : PE X b tb) {pins : List (Addr × Obj)} {s : Shared} {σ : St} {H : Hp} {R : V → V → Hp → Prop} (I : Inv X pins σ H s)
    (h : ta σ H fun x H1 => tb σ H1 fun y H2 => R x y H2) {Q : Value → Shared → Prop} {f : Value → Value → Sem Value}
    (hf : ∀ v u s2 x y H2, Inv X pins σ H2 s2 → RelV x v → RelV y u → R x y H2 → wpAny (model X.prog X.w) X.A (f v u) Q X.xe s2) :
    wpAny (model X.prog X.w) X.A (eval a X.env) (fun v s₁ => wpAny (model X.prog X.w) X.A (eval b X.env) (fun u s₂ => wpAny (model X.prog X.w) X.A (f v u) Q X.xe s₂) X.xe s₁) X.xe s := by
  refine thn (ha pins s σ H _ I h) fun v s1 ⟨x, H1, I1, r1, q1⟩ => ?_
  refine thn (hb pins s1 σ H1 _ I1 q1) fun u s2 ⟨y, H2, I2, r2, q2⟩ => ?_
  exact hf v u s2 x y H2 I2 r1 r2 q2

theorem pe_op {op : Operator} {r : R2} (ho : OpR X (binaryOp op) r) (ha : PE X a ta) (hb : PE X b tb) : PE X (.BinOp a op b pos) (tOp r ta tb) := by
  intro pins s σ H Q I h
  exact wpAny_BinOp (binT ha hb I h fun v u s2 x y H2 I2 rx ry q => ho pins s2 σ H2 x y v u Q I2 rx ry q)
theorem pe_un {op : UnaryOp} {r : V → Hp → VK → Prop} (ho : UnR X (unaryOp op) r) (ha : PE X a ta) : PE X (.UnaryOp op a pos) (tUn r ta) := by
  intro pins s σ H Q I h
  exact UnaryOp_ (thn (ha pins s σ H _ I h) fun v s1 ⟨x, H1, I1, r1, q1⟩ => ho pins s1 σ H1 x v Q I1 r1 q1)
/-! ### ints -/
theorem opI {f : Value → Value → Sem Value} {C : Int → Int → Prop} {g : Int → Int → Int}
    (rule : ∀ (i j : Int) (t u : Tok) (s : Shared) (Q : Value → Shared → Prop) (E : Value → Shared → Prop), C i j → Q (.int (g i j) s.toks) { s with toks := s.toks + 1 } → wpAny (model X.prog X.w) X.A (f (.int i t) (.int j u)) Q E s) :
    OpR X f (rI C fun i j => .int (g i j)) := by
  intro pins s σ H x y v u Q I rx ry h
  obtain ⟨i, j, rfl, rfl, hc, q⟩ := h
  obtain ⟨t, rfl⟩ := rx
  obtain ⟨t', rfl⟩ := ry
  exact rule i j t t' s _ _ hc ⟨.int (g i j), H, I.tok _, ⟨_, rfl⟩, q⟩
theorem opI0 {f : Value → Value → Sem Value} {g : Int → Int → Int}
    (rule : ∀ (i j : Int) (t u : Tok) (s : Shared) (Q : Value → Shared → Prop) (E : Value → Shared → Prop), Q (.int (g i j) s.toks) { s with toks := s.toks + 1 } → wpAny (model X.prog X.w) X.A (f (.int i t) (.int j u)) Q E s) :
    OpR X f (rI0 fun i j => .int (g i j)) := by
  intro pins s σ H x y v u Q I rx ry h
  obtain ⟨i, j, rfl, rfl, q⟩ := h
  obtain ⟨t, rfl⟩ := rx
  obtain ⟨t', rfl⟩ := ry
  exact rule i j t t' s _ _ ⟨.int (g i j), H, I.tok _, ⟨_, rfl⟩, q⟩
theorem opB0 {f : Value → Value → Sem Value} {g : Int → Int → Bool}
    (rule : ∀ (i j : Int) (t u : Tok) (s : Shared) (Q : Value → Shared → Prop) (E : Value → Shared → Prop), Q (.bool (g i j)) s → wpAny (model X.prog X.w) X.A (f (.int i t) (.int j u)) Q E s) :
    OpR X f (rI0 fun i j => .bl (g i j)) := by
  intro pins s σ H x y v u Q I rx ry h
  obtain ⟨i, j, rfl, rfl, q⟩ := h
  obtain ⟨t, rfl⟩ := rx
  obtain ⟨t', rfl⟩ := ry
  exact rule i j t t' s _ _ ⟨.bl (g i j), H, I, rfl, q⟩

def CDiv (i j : Int) : Prop := 0 < j ∧ j < 1073741824
def CPow (i j : Int) : Prop := 0 ≤ j ∧ j ≤ 1000000 ∧ i.natAbs < 2 ^ 64
def CMul (i j : Int) : Prop := (-(2 ^ 64) < i ∧ i < 2 ^ 64) ∨ (-(2 ^ 64) < j ∧ j < 2 ^ 64)
theorem CMul.ok {i j : Int} (h : CMul i j) : IntMulOk i j := by
  rcases h with ⟨h1, h2⟩ | ⟨h1, h2⟩
  · exact .of_left (intBits_le_64 h1 h2)
  · exact .of_right (intBits_le_64 h1 h2)
theorem two_pow_nn (k : Nat) : (0 : Int) ≤ 2 ^ k := by
  rw [two_pow_cast]
  exact Int.natCast_nonneg _

theorem op_add : OpR X (binaryOp .Add) (rI0 fun i j => .int (i + j)) := opI0 fun _ _ _ _ _ _ _ q => add_int q
theorem op_sub : OpR X (binaryOp .Sub) (rI0 fun i j => .int (i - j)) := opI0 fun _ _ _ _ _ _ _ q => sub_int q
theorem op_mul : OpR X (binaryOp .Mult) (rI CMul fun i j => .int (i * j)) := opI fun _ _ _ _ _ _ _ hc q => mul_int q hc.ok
/-- // by a positive divisor -/
theorem op_fdiv : OpR X (binaryOp .FloorDiv) (rI CDiv fun i j => .int (i / j)) := opI fun i j _ _ _ _ _ hc q => by
  have h1 : (0 : Int) < j := hc.1
  have h2 : j < 1073741824 := hc.2
  exact floordiv_int (by omega) (by rw [Int.fdiv_eq_ediv_of_nonneg i (by omega)]; exact q) (.inl (PyProof.noPylong_small (by omega)))
/-- % by a positive divisor of any size -/
theorem op_mod : OpR X (binaryOp .Mod) (rI (fun _ j => 0 < j) fun i j => .int (i % j)) := opI fun i j _ _ _ _ _ hc q => by
  have h1 : (0 : Int) < j := hc
  exact mod_int' (by omega) (by rw [Int.fmod_eq_emod_of_nonneg i (by omega)]; exact q)
theorem op_pow : OpR X (binaryOp .Pow) (rI CPow fun i j => .int (i ^ j.toNat)) := opI fun _ _ _ _ _ _ _ hc q => pow_int_small hc.1 hc.2.1 hc.2.2 q
theorem op_shr : OpR X (binaryOp .RShift) (rI (fun _ j => 0 ≤ j) fun i j => .int (i / 2 ^ j.toNat)) := opI fun i j _ _ _ _ _ hc q =>
  rshift_int hc (by rw [Int.fdiv_eq_ediv_of_nonneg i (two_pow_nn _)]; exact q)
theorem op_and : OpR X (binaryOp .BitAnd) (rI0 fun i j => .int (Builtin.bitAnd i j)) := opI0 fun _ _ _ _ _ _ _ q => and_int q
theorem unI {f : Value → Sem Value} {g : Int → Int}
    (rule : ∀ (i : Int) (t : Tok) (s : Shared) (Q : Value → Shared → Prop) (E : Value → Shared → Prop), Q (.int (g i) s.toks) { s with toks := s.toks + 1 } → wpAny (model X.prog X.w) X.A (f (.int i t)) Q E s) :
    UnR X f (rU fun i => .int (g i)) := by
  intro pins s σ H x v Q I rx h
  obtain ⟨i, rfl, q⟩ := h
  obtain ⟨t, rfl⟩ := rx
  exact rule i t s _ _ ⟨.int (g i), H, I.tok _, ⟨_, rfl⟩, q⟩
theorem un_neg : UnR X (unaryOp .USub) (rU fun i => .int (-i)) := unI fun _ _ _ _ _ q => neg_int q
/-! ### bools among ints: n += (a < b) -/
end

/-! ### comparisons -/
/-- the scalars that == tells apart as data does -/
def scal : V → V → Bool
  | .non, .non => true | .non, .int _ => true | .int _, .non => true | .non, .bl _ => true | .bl _, .non => true | .non, .str _ => true | .str _, .non => true
  | .int _, .int _ => true | .bl _, .bl _ => true | .str _, .str _ => true | .byt _, .byt _ => true
  | .int _, .str _ => true | .str _, .int _ => true | .bl _, .str _ => true | .str _, .bl _ => true
  | _, _ => false
def rEq : R2 := fun x y H Q => scal x y = true ∧ Q (.bl (decide (x = y))) H
def rNe : R2 := fun x y H Q => scal x y = true ∧ Q (.bl (!decide (x = y))) H

theorem dec_int {i j : Int} : decide (V.int i = V.int j) = (i == j) := by
  rw [Bool.eq_iff_iff]
  simp
theorem dec_bl {i j : Bool} : decide (V.bl i = V.bl j) = (i == j) := by
  rw [Bool.eq_iff_iff]
  simp
theorem dec_str {i j : Str} : decide (V.str i = V.str j) = (i == j) := by
  rw [Bool.eq_iff_iff]
  simp
theorem dec_byt {i j : Array UInt8} : decide (V.byt i = V.byt j) = (i.toList == j.toList) := by
  rw [Bool.eq_iff_iff]
  cases i
  cases j
  simp

section
variable {X : Cx} {a b c : Expr} {ta tb tc : TE} {pos : Pos}
theorem fin_bl {pins : List (Addr × Obj)} {σ : St} {H : Hp} {s : Shared} {Q : VK} {k k' : Bool} (I : Inv X pins σ H s) (q : Q (.bl k) H) (e : k = k') : EP X pins σ Q (.bool k') s := by
  subst e
  exact ⟨.bl k, H, I, rfl, q⟩
theorem op_eq : OpR X (compareOp .Eq) rEq := by
  intro pins s σ H x y v u Q I rx ry h
  obtain ⟨hs, q⟩ := h
  cases x with
  | non =>
    cases rx
    cases y with
    | non => cases ry; exact PySem.EqNone.eq_none_none (fin_bl I q (by simp))
    | bl j => cases ry; exact PySem.EqNone.eq_none_bool (fin_bl I q (by simp))
    | int j => obtain ⟨t', rfl⟩ := ry; exact PySem.EqNone.eq_none_int (fin_bl I q (by simp))
    | str j => obtain ⟨t', rfl⟩ := ry; exact PySem.EqNone.eq_none_str (fin_bl I q (by simp))
    | _ => exact absurd (show false = true from hs) Bool.false_ne_true
  | bl i =>
    cases rx
    cases y with
    | non => cases ry; exact PySem.EqNone.eq_bool_none (fin_bl I q (by simp))
    | bl j => cases ry; exact eq_bool (fin_bl I q dec_bl)
    | str j => obtain ⟨t', rfl⟩ := ry; exact PySem.EqMixed.eq_bool_str (fin_bl I q (by simp))
    | _ => exact absurd (show false = true from hs) Bool.false_ne_true
  | int i =>
    obtain ⟨t, rfl⟩ := rx
    cases y with
    | non => cases ry; exact PySem.EqNone.eq_int_none (fin_bl I q (by simp))
    | int j => obtain ⟨t', rfl⟩ := ry; exact eq_int (fin_bl I q dec_int)
    | str j => obtain ⟨t', rfl⟩ := ry; exact PySem.EqMixed.eq_int_str (fin_bl I q (by simp))
    | _ => exact absurd (show false = true from hs) Bool.false_ne_true
  | str i =>
    obtain ⟨t, rfl⟩ := rx
    cases y with
    | non => cases ry; exact PySem.EqNone.eq_str_none (fin_bl I q (by simp))
    | bl j => cases ry; exact PySem.EqMixed.eq_str_bool (fin_bl I q (by simp))
    | int j => obtain ⟨t', rfl⟩ := ry; exact PySem.EqMixed.eq_str_int (fin_bl I q (by simp))
    | str j => obtain ⟨t', rfl⟩ := ry; exact eq_str (fin_bl I q dec_str)
    | _ => exact absurd (show false = true from hs) Bool.false_ne_true
  | byt i =>
    obtain ⟨t, rfl⟩ := rx
    cases y with
    | byt j => obtain ⟨t', rfl⟩ := ry; exact PySem.W.eq_bytes (fin_bl I q dec_byt)
    | _ => exact absurd (show false = true from hs) Bool.false_ne_true
  | _ => cases y <;> exact absurd (show false = true from hs) Bool.false_ne_true
theorem op_ne : OpR X (compareOp .NotEq) rNe := by
  intro pins s σ H x y v u Q I rx ry h
  obtain ⟨hs, q⟩ := h
  cases x with
  | non =>
    cases rx
    cases y with
    | non => cases ry; exact PySem.EqNone.ne_none_none (fin_bl I q (by simp))
    | bl j => cases ry; exact PySem.EqNone.ne_none_bool (fin_bl I q (by simp))
    | int j => obtain ⟨t', rfl⟩ := ry; exact PySem.EqNone.ne_none_int (fin_bl I q (by simp))
    | str j => obtain ⟨t', rfl⟩ := ry; exact PySem.EqNone.ne_none_str (fin_bl I q (by simp))
    | _ => exact absurd (show false = true from hs) Bool.false_ne_true
  | bl i =>
    cases rx
    cases y with
    | non => cases ry; exact PySem.EqNone.ne_bool_none (fin_bl I q (by simp))
    | bl j => cases ry; exact ne_bool (fin_bl I q (congrArg not dec_bl))
    | str j => obtain ⟨t', rfl⟩ := ry; exact PySem.EqMixed.ne_bool_str (fin_bl I q (by simp))
    | _ => exact absurd (show false = true from hs) Bool.false_ne_true
  | int i =>
    obtain ⟨t, rfl⟩ := rx
    cases y with
    | non => cases ry; exact PySem.EqNone.ne_int_none (fin_bl I q (by simp))
    | int j => obtain ⟨t', rfl⟩ := ry; exact ne_int (fin_bl I q (congrArg not dec_int))
    | str j => obtain ⟨t', rfl⟩ := ry; exact PySem.EqMixed.ne_int_str (fin_bl I q (by simp))
    | _ => exact absurd (show false = true from hs) Bool.false_ne_true
  | str i =>
    obtain ⟨t, rfl⟩ := rx
    cases y with
    | non => cases ry; exact PySem.EqNone.ne_str_none (fin_bl I q (by simp))
    | bl j => cases ry; exact PySem.EqMixed.ne_str_bool (fin_bl I q (by simp))
    | int j => obtain ⟨t', rfl⟩ := ry; exact PySem.EqMixed.ne_str_int (fin_bl I q (by simp))
    | str j => obtain ⟨t', rfl⟩ := ry; exact ne_str (fin_bl I q (congrArg not dec_str))
    | _ => exact absurd (show false = true from hs) Bool.false_ne_true
  | byt i =>
    obtain ⟨t, rfl⟩ := rx
    cases y with
    | byt j => obtain ⟨t', rfl⟩ := ry; exact PySem.W.ne_bytes (fin_bl I q (congrArg not dec_byt))
    | _ => exact absurd (show false = true from hs) Bool.false_ne_true
  | _ => cases y <;> exact absurd (show false = true from hs) Bool.false_ne_true

theorem op_lt : OpR X (compareOp .Lt) (rI0 fun i j => .bl (decide (i < j))) := opB0 fun _ _ _ _ _ _ _ q => lt_int q
theorem op_le : OpR X (compareOp .LtE) (rI0 fun i j => .bl (decide (i ≤ j))) := opB0 fun _ _ _ _ _ _ _ q => le_int q
theorem op_gt : OpR X (compareOp .Gt) (rI0 fun i j => .bl (decide (j < i))) := opB0 fun _ _ _ _ _ _ _ q => gt_int q
theorem op_ge : OpR X (compareOp .GtE) (rI0 fun i j => .bl (decide (j ≤ i))) := opB0 fun _ _ _ _ _ _ _ q => ge_int q
theorem op_notN : OpR X (compareOp .IsNot) (fun x y H Q => y = .non ∧ Q (.bl (!decide (x = .non))) H) := by
  intro pins s σ H x y v u Q I rx ry h
  obtain ⟨rfl, q⟩ := h
  cases ry
  refine isnot_none_gen (fin_bl I q ?_)
  cases x <;> first
    | (cases rx; rfl)
    | (obtain ⟨t, rfl⟩ := rx; rfl)

theorem nomark (b : Expr) {op : CmpOp} (h : op ≠ .In := by decide) (h2 : op ≠ .NotIn := by decide) : behindInMarks op b = false := by
  have e1 : (op == CmpOp.In) = false := by cases op <;> first | rfl | exact absurd rfl h
  have e2 : (op == CmpOp.NotIn) = false := by cases op <;> first | rfl | exact absurd rfl h2
  cases b <;> simp [behindInMarks, e1, e2]
/-- a comparison as a value; hm: nomark b, or (for in, not in) by with_unfolding_all rfl -/
theorem pe_cmpR {op : CmpOp} {r : R2} (ho : OpR X (compareOp op) r) (ha : PE X a ta) (hb : PE X b tb) (hm : behindInMarks op b = false) : PE X (.Compare a [op] [b] pos) (tOp r ta tb) := by
  intro pins s σ H Q I h
  exact wpAny_Compare1 (binT ha hb I h fun v u s2 x y H2 I2 rx ry q => ho pins s2 σ H2 x y v u Q I2 rx ry q) hm
/-- a reading of a value as a test -/
def tTest (t : TE) : TT := fun σ H Q => t σ H fun x H' => ∃ k, x = .bl k ∧ Q k H'
theorem pt_cmpR {op : CmpOp} {r : R2} (ho : OpR X (compareOp op) r) (ha : PE X a ta) (hb : PE X b tb) (hm : behindInMarks op b = false) : PT X (.Compare a [op] [b] pos) (tTest (tOp r ta tb)) := by
  intro pins s σ H Q I h
  refine wpAny_isTrue_Compare1 (thn (ha pins s σ H _ I h) fun v s1 ⟨x, H1, I1, r1, q1⟩ => thn (hb pins s1 σ H1 _ I1 q1) fun u s2 ⟨y, H2, I2, r2, q2⟩ =>
    thn (ho pins s2 σ H2 x y v u _ I2 r1 r2 q2) fun c s3 ⟨z, H3, I3, r3, k, e, q3⟩ => ?_) hm
  subst e
  cases r3
  exact wpAny_truthy_bool ⟨H3, I3, q3⟩
/-- a op1 b op2 c -/
def tChain (r r' : R2) (ta tb tc : TE) : TE := fun σ H Q => ta σ H fun x H1 => tb σ H1 fun y H2 => r x y H2 fun z H3 => ∃ k, z = .bl k ∧
  (if k = true then tc σ H3 fun w' H4 => r' y w' H4 Q else Q (.bl false) H3)
theorem pe_chain {op op' : CmpOp} {r r' : R2} (ho : OpR X (compareOp op) r) (ho' : OpR X (compareOp op') r') (ha : PE X a ta) (hb : PE X b tb) (hc : PE X c tc)
    (hm : lastMarks [op, op'] [b, c] = false := by with_unfolding_all rfl) : PE X (.Compare a [op, op'] [b, c] pos) (tChain r r' ta tb tc) := by
  intro pins s σ H Q I h
  refine Compare_chain (thn (ha pins s σ H _ I h) fun v s1 ⟨x, H1, I1, r1, q1⟩ => chain_link (thn (hb pins s1 σ H1 _ I1 q1) fun u s2 ⟨y, H2, I2, r2, q2⟩ =>
    thn (ho pins s2 σ H2 x y v u _ I2 r1 r2 q2) fun d s3 ⟨z, H3, I3, r3, k, e, q3⟩ => ?_)) hm
  subst e
  cases r3
  refine wpAny_truthy_bool ?_
  cases k with
  | false => exact ite_ff ⟨.bl false, H3, I3, rfl, q3⟩
  | true => exact ite_tt (chain_last (thn (hc pins s3 σ H3 _ I3 q3) fun w' s4 ⟨z', H4, I4, r4, q4⟩ => ho' pins s4 σ H4 y z' u w' Q I4 r2 r4 q4))
theorem pt_chain {op op' : CmpOp} {r r' : R2} (ho : OpR X (compareOp op) r) (ho' : OpR X (compareOp op') r') (ha : PE X a ta) (hb : PE X b tb) (hc : PE X c tc)
    (hm : lastMarks [op, op'] [b, c] = false := by with_unfolding_all rfl) : PT X (.Compare a [op, op'] [b, c] pos) (tTest (tChain r r' ta tb tc)) := by
  intro pins s σ H Q I h
  refine isTrue_chain (thn (ha pins s σ H _ I h) fun v s1 ⟨x, H1, I1, r1, q1⟩ => test_link (thn (hb pins s1 σ H1 _ I1 q1) fun u s2 ⟨y, H2, I2, r2, q2⟩ =>
    thn (ho pins s2 σ H2 x y v u _ I2 r1 r2 q2) fun d s3 ⟨z, H3, I3, r3, k, e, q3⟩ => ?_)) hm
  subst e
  cases r3
  refine wpAny_truthy_bool ?_
  cases k with
  | false =>
    obtain ⟨k', e', q'⟩ := q3
    cases e'
    exact ite_ff ⟨H3, I3, q'⟩
  | true =>
    refine ite_tt (test_last (thn (hc pins s3 σ H3 _ I3 q3) fun w' s4 ⟨z', H4, I4, r4, q4⟩ => thn (ho' pins s4 σ H4 y z' u w' _ I4 r2 r4 q4) fun d' s5 ⟨z2, H5, I5, r5, k2, e2, q5⟩ => ?_))
    subst e2
    cases r5
    exact wpAny_truthy_bool ⟨H5, I5, q5⟩

/-! ### truth -/
theorem line63 : (sizeLine : Nat) < 2 ^ 63 := by rw [sizeLine_eq]; decide
/-! ### strs and bytes -/
theorem op_add_str : OpR X (binaryOp .Add) (fun x y H Q => ∃ i j, x = .str i ∧ y = .str j ∧ i.length + j.length ≤ sizeLine ∧ Q (.str (i ++ j)) H) := by
  intro pins s σ H x y v u Q I rx ry h
  obtain ⟨i, j, rfl, rfl, hz, q⟩ := h
  obtain ⟨t, rfl⟩ := rx
  obtain ⟨t', rfl⟩ := ry
  exact add_str (fun t' tk => ⟨.str (i ++ j), H, I.tok _, ⟨_, rfl⟩, q⟩) hz
/-! ### scalar builtins, by CallR -/
theorem vals1 {x : V} {us : List Value} (r : Vals [x] us) : ∃ u, us = [u] ∧ RelV x u := by
  cases r with
  | cons r1 r2 => cases r2; exact ⟨_, rfl, r1⟩
theorem vals2 {x y : V} {us : List Value} (r : Vals [x, y] us) : ∃ u w', us = [u, w'] ∧ RelV x u ∧ RelV y w' := by
  cases r with
  | cons r1 r2 =>
    cases r2 with
    | cons r3 r4 => cases r4; exact ⟨_, _, rfl, r1, r3⟩
end
end L2

namespace L2
open PySem PySem.Spec PyProof.Rows

/-! ### an instance, its attributes a map -/
structure ObjM (h : Heap) (x dx C : Addr) (mA : Str → Option Value) : Prop where
  obj : h.get? x = some (PySem.W.instObj C dx)
  ns : h.Ns1 dx mA
  ne : dx ≠ x

theorem lookIn_ns {h : Heap} {dx : Addr} {mA : Str → Option Value} (n : h.Ns1 dx mA) : ∃ od, h.get? dx = some od ∧ ∀ name, PySem.W.lookIn name od = some (mA name) := by
  obtain ⟨o, es, ep, ho, hd, hk, _, hm⟩ := n
  refine ⟨o, ho, fun name => ?_⟩
  have e := hm name
  unfold nsFind findBy at e
  rw [← Array.find?_toList] at e
  unfold PySem.W.lookIn
  rw [hd]
  dsimp only
  split
  · rename_i y q
    rw [q] at e
    exact congrArg some e
  · rename_i q
    rw [q] at e
    have a : es.toList.any (·.refKey) = false := by
      rw [List.any_eq_false]
      intro y hy
      obtain ⟨z, t, hkey⟩ := hk y (Array.mem_toList_iff.mp hy)
      simp [DictEntry.refKey, hkey]
    have a' : ¬ es.toList.any (·.refKey) = true := by rw [a]; exact Bool.false_ne_true
    rw [if_neg a']
    exact congrArg some e

theorem ObjM.look {h : Heap} {x dx C : Addr} {mA : Str → Option Value} (I : ObjM h x dx C mA) : ∃ od, PySem.W.InstAt h x (PySem.W.instObj C dx) C (some od) ∧ ∀ name, PySem.W.lookIn name od = some (mA name) :=
  let ⟨od, ho, hl⟩ := lookIn_ns I.ns
  ⟨od, ⟨I.obj, rfl, rfl, ho⟩, hl⟩

section
variable {prog : Program} {w : World} {A : Around} {E : Value → Shared → Prop} {s : Shared} {K : PySem.W.Frag} {x dx C f : Addr} {mA : Str → Option Value} {name : Str} {v : Value}

theorem get_map {expr : Bool} {Q : Value → Shared → Prop} (X : K.In s.heap) (I : ObjM s.heap x dx C mA) (hg : PySem.W.plainGet K C name = true) (hh : PySem.W.hasDictIn K C = true)
    (ha : PySem.W.findIn K (.ref C) name = some none) (hv : mA name = some v) (hv' : PySem.W.handedIn v = true) (h : Q v { s with toks := s.toks + 1 }) :
    wpAny (model prog w) A (getAttr (.ref x) name expr) Q E s := by
  obtain ⟨od, J, hl⟩ := I.look
  exact PySem.W.get_value X J (PySem.W.plainGet_of hg).1 (PySem.W.findObj_own hh ha rfl (by rw [hl, hv])) hv' h

theorem get_meth {pl : Sem Bool} {Q : Value × List Value → Shared → Prop} (X : K.In s.heap) (I : ObjM s.heap x dx C mA) (hg : PySem.W.plainGet K C name = true)
    (hf : PySem.W.findIn K (.ref C) name = some (some (.ref f))) (ht : PySem.W.isFn K (.ref f) = true) (hv : mA name = none) (h : Q (.ref f, [.ref x]) s) :
    wpAny (model prog w) A (getMethod (.ref x) name pl) Q E s := by
  obtain ⟨od, J, hl⟩ := I.look
  exact PySem.W.method_fn X J (PySem.W.plainGet_of hg).1 (PySem.W.plainGet_of hg).2 hf (beq_iff_eq.mp ht) (by show (PySem.W.lookIn name od).map (·.isSome) = some false; rw [hl, hv]; rfl) h

theorem set_map {ns : List Str} {Q : Unit → Shared → Prop} (X : K.In s.heap) (I : ObjM s.heap x dx C mA)
    (hs : PySem.W.findIn K (.ref C) "__setattr__" = some (some (.builtin "object.__setattr__"))) (hp : PySem.W.plainOver K C = true) (ht : PySem.W.takerIn K C name = some none) (hh : PySem.W.hasDictIn K C = true)
    (hw : PySem.Within mA ns) (hsz : ns.length ≤ sizeLine)
    (h : ∀ h', ObjM h' x dx C (fun y => if y = name then some v else mA y) → Heap.SameBut dx s.heap h' → Q () { s with heap := h', toks := s.toks + 2 }) :
    wpAny (model prog w) A (setAttr (.ref x) name v) Q E s := by
  obtain ⟨od, J, hl⟩ := I.look
  refine PySem.W.set_plain X J hs (PySem.W.osa_open (s := { s with toks := s.toks + 1 }) (r := none) X J hp ht fun b => ?_)
  obtain ⟨cd, hc, hd'⟩ := PySem.W.any_some hh
  have hx : s.heap.get? x = some ⟨.ref C, some dx, .plain, #[]⟩ := I.obj
  refine wpAny_bind (wpAny_pure (wpAny_bind (wpAny_bind (wpAny_loadPart hx (wpAny_bind (PySem.W.Looks.here (s := { s with toks := s.toks + 1 }) (PySem.W.looks_clsIn X hc) ?_))))))
  rw [hd']
  refine wpAny_pure (a := some dx) (wpAny_bind (wpAny_pure (wpAny_bind ?_)))
  refine wpAny_nsSet1 (s := { s with toks := s.toks + 1 }) I.ns fun h' hn2 hs2 => ?_
  obtain ⟨oD, esD, epD, hoD, hdD, hcD⟩ := hn2.count (PySem.Within.cons name v hw)
  refine wpAny_bind (wpAny_lookBehind hoD (by rw [hdD]; exact pastItsLine_dict (Nat.le_trans hcD (by rw [List.length_cons]; omega))) ?_)
  exact wpAny_pure (h _ ⟨(hs2.2 _ (Ne.symm I.ne)).trans I.obj, hn2, I.ne⟩ hs2)

/-- C(..): the dict at the heap's end, the instance behind it; then its __init__ -/
theorem make_map {R : Result → Shared → Prop} {vs : List Value} {kw : List (Str × Value)} (X : K.In s.heap) (hm : PySem.W.makesIn K C = true)
    (hi : PySem.W.findIn K (.ref C) "__init__" = some (some (.ref f))) (hf : PySem.W.typeIn K (.ref f) = some (.type "function"))
    (h : codeAny (model prog w) (A.under (.builtin "type.__call__" ⟨.ref C :: vs, kw⟩)) (.call (.ref f) ⟨.ref (s.heap.objs.size + 1) :: vs, kw⟩) (PySem.W.InitBack (s.heap.objs.size + 1) R)
      { s with heap := (s.heap.push PySem.W.emptyDict).push (PySem.W.instObj C s.heap.objs.size) }) :
    codeAny (model prog w) A (.call (.ref C) ⟨vs, kw⟩) R s := by
  obtain ⟨hh, g, d, t, os⟩ := s
  exact PySem.W.make_core (PySem.W.makes_of X hm) (PySem.W.looks_findIn X hi) (fun self => PySem.W.bind_fn X self hf) (.inl rfl) h
end

/-! ### the attributes as a list of pairs -/
def putF (f : Str) (v : V) : List (Str × V) → List (Str × V)
  | [] => [(f, v)]
  | (g, x) :: r => if g = f then (g, v) :: r else (g, x) :: putF f v r
theorem lookup_putF (f g : Str) (v : V) : ∀ fs : List (Str × V), (putF f v fs).lookup g = if g = f then some v else fs.lookup g
  | [] => by
    show List.lookup g [(f, v)] = _
    by_cases h : g = f
    · have hb : (g == f) = true := beq_iff_eq.mpr h
      simp only [List.lookup, hb, if_pos h]
    · have hb : (g == f) = false := beq_eq_false_iff_ne.mpr h
      simp only [List.lookup, hb, if_neg h]
  | (k, x) :: r => by
    have ih := lookup_putF f g v r
    rw [show putF f v ((k, x) :: r) = (if k = f then (k, v) :: r else (k, x) :: putF f v r) from rfl]
    by_cases hk : k = f
    · rw [if_pos hk]
      by_cases h : g = k
      · have hb : (g == k) = true := beq_iff_eq.mpr h
        simp only [List.lookup, hb, if_pos (h.trans hk)]
      · have hb : (g == k) = false := beq_eq_false_iff_ne.mpr h
        simp only [List.lookup, hb, if_neg (fun e : g = f => h (e.trans hk.symm))]
    · rw [if_neg hk]
      by_cases h : g = k
      · have hb : (g == k) = true := beq_iff_eq.mpr h
        simp only [List.lookup, hb, if_neg (fun e : g = f => hk (h.symm.trans e))]
      · have hb : (g == k) = false := beq_eq_false_iff_ne.mpr h
        simp only [List.lookup, hb]
        exact ih
theorem keys_putF (f : Str) (v : V) : ∀ fs : List (Str × V), f ∈ (putF f v fs).map (·.1) ∧ ∀ g, g ∈ fs.map (·.1) → g ∈ (putF f v fs).map (·.1)
  | [] => ⟨by simp [putF], fun g h => by simp at h⟩
  | (k, x) :: r => by
    obtain ⟨i1, i2⟩ := keys_putF f v r
    rw [show putF f v ((k, x) :: r) = (if k = f then (k, v) :: r else (k, x) :: putF f v r) from rfl]
    by_cases hk : k = f
    · rw [if_pos hk]
      subst hk
      exact ⟨by simp, fun g h => by simpa using h⟩
    · rw [if_neg hk]
      refine ⟨?_, fun g h => ?_⟩
      · rw [List.map_cons]
        exact List.mem_cons_of_mem _ i1
      · rw [List.map_cons] at h ⊢
        rcases List.mem_cons.mp h with e | e
        · exact List.mem_cons.mpr (.inl e)
        · exact List.mem_cons_of_mem _ (i2 g e)
theorem length_putF (f : Str) (v : V) : ∀ fs : List (Str × V), (putF f v fs).length ≤ fs.length + 1
  | [] => by simp [putF]
  | (k, x) :: r => by
    have ih := length_putF f v r
    rw [show putF f v ((k, x) :: r) = (if k = f then (k, v) :: r else (k, x) :: putF f v r) from rfl]
    by_cases hk : k = f
    · rw [if_pos hk, List.length_cons, List.length_cons]; omega
    · rw [if_neg hk, List.length_cons, List.length_cons]; omega

theorem RelO.some_of {v : V} {o : Option Value} (r : RelO (some v) o) : ∃ u, o = some u ∧ RelV v u := by
  cases o with
  | none => exact (show False from r).elim
  | some u => exact ⟨u, rfl, r⟩
theorem RelO.none_of {o : Option Value} (r : RelO none o) : o = none := by
  cases o with
  | none => rfl
  | some u => exact (show False from r).elim
theorem handed_of {v : V} {u : Value} (r : RelV v u) : PySem.W.handedIn u = true := by
  cases v with
  | non => cases (show u = Value.none from r); rfl
  | bl b => cases (show u = Value.bool b from r); rfl
  | int i => obtain ⟨t, e⟩ := (show ∃ t, u = Value.int i t from r); cases e; rfl
  | str x => obtain ⟨t, e⟩ := (show ∃ t, u = Value.str x t from r); cases e; rfl
  | byt b => obtain ⟨t, e⟩ := (show ∃ t, u = Value.bytes b t from r); cases e; rfl
  | flt b => obtain ⟨t, e⟩ := (show ∃ t, u = Value.float b t from r); cases e; rfl
  | ref a => cases (show u = Value.ref a from r); rfl
  | ty n => cases (show u = Value.type n from r); rfl

section
variable {P : Program} {w : World} {H H' : Hp} {h h' : Heap} {a C dx : Addr} {fs fs' : List (Str × V)}
theorem ins_get (hok : HOk P w H h) (e : H a = some (.ins C dx fs)) : ∃ mA, ObjM h a dx C mA ∧ (∀ f, RelO (fs.lookup f) (mA f)) ∧ PySem.Within mA (fs.map (·.1)) ∧ fs.length ≤ 1000 ∧ H dx = some (.own a) := by
  obtain ⟨d, z, ne, ob, mA, n, r, q⟩ := (show ObjOk P w H h a (.ins C dx fs) from hok a _ e)
  exact ⟨mA, ⟨ob, n, ne⟩, r, q, z, d⟩
end

/-! ### what of the text a class must have -/
structure Cls (K : PySem.W.Frag) (C : Addr) : Prop where
  pg : PySem.W.plainGet K C Str.empty = true
  hd : PySem.W.hasDictIn K C = true
  po : PySem.W.plainOver K C = true
  sa : PySem.W.findIn K (.ref C) "__setattr__" = some (some (.builtin "object.__setattr__"))
theorem Cls.get {K : PySem.W.Frag} {C : Addr} (c : Cls K C) (f : Str) : PySem.W.plainGet K C f = true := c.pg
/-- no class of it has the name -/
def NoAttr (K : PySem.W.Frag) (C : Addr) (f : Str) : Prop := PySem.W.findIn K (.ref C) f = some none
theorem NoAttr.taker {K : PySem.W.Frag} {C : Addr} {f : Str} (n : NoAttr K C f) : PySem.W.takerIn K C f = some none := by
  unfold PySem.W.takerIn
  rw [show PySem.W.findIn K (.ref C) f = some none from n]
  rfl
/-- a method: a plain def of the class or of one above it -/
structure Meth (K : PySem.W.Frag) (C : Addr) (m : Str) (f : Addr) : Prop where
  at_ : PySem.W.findIn K (.ref C) m = some (some (.ref f))
  fn : PySem.W.isFn K (.ref f) = true
  kp : PySem.W.keepIn K (.ref f) = true

section
variable {X : Cx} {pins : List (Addr × Obj)} {σ : St} {H : Hp} {s : Shared} {a C dx : Addr} {fs : List (Str × V)} {f : Str} {v : V} {A : Around} {E : Value → Shared → Prop}

theorem getattr_ok {b : Bool} {Q : Value → Shared → Prop} (I : Inv X pins σ H s) (e : H a = some (.ins C dx fs)) (c : Cls X.K C) (n : NoAttr X.K C f) (l : fs.lookup f = some v)
    (h : ∀ u s', Inv X pins σ H s' → RelV v u → Q u s') : wpAny (model X.prog X.w) A (getAttr (.ref a) f b) Q E s := by
  obtain ⟨mA, O, r, _, _, _⟩ := ins_get I.hok e
  obtain ⟨u, hu, ru⟩ := RelO.some_of (v := v) (o := mA f) (by rw [← l]; exact r f)
  exact get_map I.kIn O (c.get f) c.hd n hu (handed_of ru) (h u _ (I.tok _) ru)

theorem getmeth_ok {m : Str} {g : Addr} {pl : Sem Bool} {Q : Value × List Value → Shared → Prop} (I : Inv X pins σ H s) (e : H a = some (.ins C dx fs)) (c : Cls X.K C) (k : Meth X.K C m g) (l : fs.lookup m = none)
    (h : Q (.ref g, [.ref a]) s) : wpAny (model X.prog X.w) A (getMethod (.ref a) m pl) Q E s := by
  obtain ⟨mA, O, r, _, _, _⟩ := ins_get I.hok e
  have hn : mA m = none := RelO.none_of (by rw [← l]; exact r m)
  exact get_meth I.kIn O (c.get m) k.at_ k.fn hn h

theorem setattr_ok {y : V} {u : Value} {Q : Unit → Shared → Prop} (I : Inv X pins σ H s) (e : H a = some (.ins C dx fs)) (c : Cls X.K C) (n : NoAttr X.K C f) (hl : fs.length < 1000) (ry : RelV y u)
    (h : ∀ s', Inv X pins σ (upd H a (.ins C dx (putF f y fs))) s' → Q () s') : wpAny (model X.prog X.w) A (setAttr (.ref a) f u) Q E s := by
  obtain ⟨mA, O, r, wi, _, ho⟩ := ins_get I.hok e
  have hz : (fs.map (·.1)).length ≤ sizeLine := by rw [List.length_map, sizeLine_eq]; omega
  refine set_map I.kIn O c.sa c.po n.taker c.hd wi hz fun h' O' sb => h _ ?_
  have hd : ∃ o, h'.get? dx = some o := let ⟨o, _, _, e', _⟩ := O'.ns; ⟨o, e'⟩
  refine I.write (x := a) (e := dx) (by rw [e]; exact True.intro) (.inr ho) (fun b q hb z => (sb.2 b hb).trans z) hd ?_
  refine ⟨by rw [upd_ne O.ne]; exact ho, ?_, O.ne, O'.obj, _, O'.ns, fun g => ?_, fun g hg => ?_⟩
  · have := length_putF f y fs; omega
  · show RelO ((putF f y fs).lookup g) (if g = f then some u else mA g)
    rw [lookup_putF]
    by_cases q : g = f
    · rw [if_pos q, if_pos q]; exact ry
    · rw [if_neg q, if_neg q]; exact r g
  · by_cases q : g = f
    · rw [q]; exact (keys_putF f y fs).1
    · refine (keys_putF f y fs).2 g (wi g fun z => hg ?_)
      show (if g = f then some u else mA g) = none
      rw [if_neg q]; exact z

/-- a new instance, tracked, without attributes -/
theorem Inv.made (I : Inv X pins σ H s) : Inv X pins σ (upd (upd H s.heap.objs.size (.own (s.heap.objs.size + 1))) (s.heap.objs.size + 1) (.ins C s.heap.objs.size []))
    { s with heap := (s.heap.push PySem.W.emptyDict).push (PySem.W.instObj C s.heap.objs.size) } := by
  have e1 : (s.heap.push PySem.W.emptyDict).get? s.heap.objs.size = some PySem.W.emptyDict := Heap.get?_push_size s.heap rfl
  have e2 : ((s.heap.push PySem.W.emptyDict).push (PySem.W.instObj C s.heap.objs.size)).get? (s.heap.objs.size + 1) = some (PySem.W.instObj C s.heap.objs.size) := by
    have := Heap.get?_push_size (s.heap.push PySem.W.emptyDict) (o := PySem.W.instObj C s.heap.objs.size) rfl
    rwa [Heap.size_push] at this
  have e3 : (s.heap.push PySem.W.emptyDict).Ns s.heap.objs.size (fun _ => none) := ⟨PySem.W.emptyDict, #[], _, e1, rfl, (fun e he => absurd he (by simp)), fun _ => rfl⟩
  have I1 := I.laid (a := s.heap.objs.size) (o := .own (s.heap.objs.size + 1)) (h' := s.heap.push PySem.W.emptyDict) (t' := s.toks) (fun b u q => Heap.get?_push_of_some _ q) (Nat.le_refl _) ⟨_, e1⟩
  refine I1.laid (a := s.heap.objs.size + 1) (o := .ins C s.heap.objs.size []) (t' := s.toks) (fun b u q => Heap.get?_push_of_some _ q) (Nat.le_of_eq (Heap.size_push _ _)) ?_
  have ne : s.heap.objs.size ≠ s.heap.objs.size + 1 := Nat.ne_of_lt (Nat.lt_succ_self _)
  refine ⟨by rw [upd_ne ne, upd_same], Nat.zero_le _, ne, e2, fun _ => none, (Heap.Ns1.of_empty e3).at fun o q => Heap.get?_push_of_some _ q, fun _ => True.intro, fun y hy => absurd rfl hy⟩

/-- e.f where nothing but the object is asked: through attributeBase (super) and the last hold -/
theorem attr_of {prog : Program} {w : World} {env : Env} {e : Expr} {f : Str} {pos : Pos} {s : Shared} {Q : Value → Shared → Prop} (hb : attributeBase e f env (eval e env) = eval e env)
    (h : wpAny (model prog w) A (eval e env) (fun o s₁ => wpAny (model prog w) A (getAttr o f true) Q E s₁) E s) : wpAny (model prog w) A (eval (.Attribute e f pos) env) Q E s :=
  Attribute_any_ h (by rw [arm_eval_Attribute, hb])
end

/-! ### readings and rules -/
/-- e.f, an attribute of the instance -/
def tFld (K : PySem.W.Frag) (ta : TE) (f : Str) : TE := fun σ H Q => ta σ H fun x H1 => ∃ a C dx fs v, x = .ref a ∧ H1 a = some (.ins C dx fs) ∧ Cls K C ∧ NoAttr K C f ∧ fs.lookup f = some v ∧ Q v H1
/-- e.f = value -/
def sFld (K : PySem.W.Frag) (ta tv : TE) (f : Str) : TS := fun D σ H => tv σ H fun y H1 => ta σ H1 fun x H2 => ∃ a C dx fs, x = .ref a ∧ H2 a = some (.ins C dx fs) ∧ Cls K C ∧ NoAttr K C f ∧ fs.length < 1000 ∧
  D.nx σ (upd H2 a (.ins C dx (putF f y fs)))
section
variable {X : Cx} {o e value : Expr} {f : Str} {pos pos' tpos : Pos} {ta tv : TE}
theorem pe_fld (he : PE X e ta) (hb : attributeBase e f X.env (eval e X.env) = eval e X.env) : PE X (.Attribute e f pos) (tFld X.K ta f) := by
  intro pins s σ H Q I h
  refine attr_of hb (thn (he pins s σ H _ I h) fun u s1 ⟨x, H1, I1, rx, a, C, dx, fs, v, ex, ea, c, n, l, q⟩ => ?_)
  subst ex
  obtain rfl : u = Value.ref a := rx
  exact getattr_ok I1 ea c n l fun u' s2 I2 ru => ⟨v, H1, I2, ru, q⟩
theorem ps_fld (ha : PE X o ta) (hv : PE X value tv) (hs : swapsWith value (some (.Attribute o f pos')) pos.line X.env = pure false) : PS X (.Assign [.Attribute o f pos'] value pos) (sFld X.K ta tv f) := by
  intro pins s σ H D I h
  refine plainObj_wpAny_Assign_Attribute (thn (hv pins s σ H _ I h) fun u s1 ⟨y, H1, I1, ry, q⟩ => thn (ha pins s1 σ H1 _ I1 q) fun ov s2 ⟨x, H2, I2, rx, a, C, dx, fs, ex, ea, c, n, l, q2⟩ => ?_) hs
  subst ex
  obtain rfl : ov = Value.ref a := rx
  exact setattr_ok I2 ea c n l ry fun s3 I3 => ⟨σ, _, I3, q2⟩
end

/-! ### isinstance -/
section
variable {X : Cx} {pins : List (Addr × Obj)} {σ : St} {H : Hp} {s : Shared} {A : Around} {E : Value → Shared → Prop} {Q : Value → Shared → Prop} {c : Value} {b : Bool}
/-- the type of a value, as the fragment's deciders take it; for an instance its class -/
inductive TyOf (K : PySem.W.Frag) (H : Hp) : V → Value → Prop where
  | non : TyOf K H .non (.type "NoneType")
  | bl (x : Bool) : TyOf K H (.bl x) (.type "bool")
  | int (i : Int) : TyOf K H (.int i) (.type "int")
  | str (x : Str) : TyOf K H (.str x) (.type "str")
  | flt (x : UInt64) : TyOf K H (.flt x) (.type "float")
  | lst {a : Addr} {xs : List V} (e : H a = some (.lst xs)) : TyOf K H (.ref a) (.type "list")
  | frz {a : Addr} {o : Obj} {xs : List V} (e : H a = some (.frz o (.lst xs))) : TyOf K H (.ref a) (.type "list")
  | tup {a : Addr} {xs : List V} (e : H a = some (.tup xs)) : TyOf K H (.ref a) (.type "tuple")
  | dK {a : Addr} {kvs : List (Key × V)} (e : H a = some (.dK kvs)) : TyOf K H (.ref a) (.type "dict")
  | dT {a : Addr} {kvs : List (List Key × V)} (e : H a = some (.dT kvs)) : TyOf K H (.ref a) (.type "dict")
  | ins {a C dx : Addr} {fs : List (Str × V)} (e : H a = some (.ins C dx fs)) (cl : Cls K C) (ha : PySem.W.findIn K (.ref C) "__class__" = some (some (.builtin "object.__class__")))
      (hn : PySem.W.specialIn K (.builtin "object.__class__") "__get__" = some (some (.builtin "getset_descriptor.__get__"))) (htk : PySem.W.takesIn K (.builtin "object.__class__") = some true)
      (hm : PySem.W.mroIn K C (.type "object") = some true) : TyOf K H (.ref a) (.ref C)
/-- isinstance(x, c) for one class c, a built-in or an own one: kitOne's answer -/
theorem isinst_ok {x : V} {u t : Value} (I : Inv X pins σ H s) (rx : RelV x u) (ty : TyOf X.K H x t) (e : PySem.W.kitOne X.K t c = some b) (h : ∀ tk, Q (.bool b) { s with toks := tk }) :
    wpAny (model X.prog X.w) A (call (.builtin "isinstance") [u, c]) Q E s := by
  cases ty with
  | non => cases (show u = Value.none from rx); exact PySem.W.kia_one PySem.W.kitx_none I.kIn True.intro e (fun z => nomatch z) h
  | bl y => cases (show u = Value.bool y from rx); exact PySem.W.kia_one PySem.W.kitx_bool I.kIn True.intro e (fun z => nomatch z) h
  | int i => obtain ⟨t, q⟩ := (show ∃ t, u = Value.int i t from rx); cases q; exact PySem.W.kia_one PySem.W.kitx_int I.kIn True.intro e (fun z => nomatch z) h
  | str y => obtain ⟨t, q⟩ := (show ∃ t, u = Value.str y t from rx); cases q; exact PySem.W.kia_one PySem.W.kitx_str I.kIn True.intro e (fun z => nomatch z) h
  | flt y => obtain ⟨t, q⟩ := (show ∃ t, u = Value.float y t from rx); cases q; exact PySem.W.kia_one PySem.W.kitx_float I.kIn True.intro e (fun z => nomatch z) h
  | @lst a xs ea =>
    cases (show u = Value.ref a from rx)
    obtain ⟨_, _, n, _, h1⟩ := (show ObjOk X.prog X.w H s.heap a (.lst xs) from I.hok a _ ea)
    exact PySem.W.kia_one PySem.W.kitx_list I.kIn ⟨_, h1, rfl⟩ e (fun z => nomatch z) h
  | @frz a ob xs ea =>
    cases (show u = Value.ref a from rx)
    obtain ⟨_, _, _, n, _, h1⟩ := (show ObjOk X.prog X.w H s.heap a (.frz ob (.lst xs)) from I.hok a _ ea)
    exact PySem.W.kia_one PySem.W.kitx_list I.kIn ⟨_, h1, rfl⟩ e (fun z => nomatch z) h
  | @tup a xs ea =>
    cases (show u = Value.ref a from rx)
    obtain ⟨_, _, _, p⟩ := (show ObjOk X.prog X.w H s.heap a (.tup xs) from I.hok a _ ea)
    obtain ⟨o, h1, h2, _⟩ := p
    exact PySem.W.kia_one PySem.W.kitx_tuple I.kIn ⟨o, h1, h2⟩ e (fun z => nomatch z) h
  | @dK a kvs ea =>
    cases (show u = Value.ref a from rx)
    obtain ⟨_, _, vs, _, p⟩ := (show ObjOk X.prog X.w H s.heap a (.dK kvs) from I.hok a _ ea)
    obtain ⟨o, es, ep, h1, h2, _⟩ := p
    exact PySem.W.kia_one PySem.W.kitx_dict I.kIn ⟨o, h1, h2.1⟩ e (fun z => nomatch z) h
  | @dT a kvs ea =>
    cases (show u = Value.ref a from rx)
    obtain ⟨_, _, xs, _, o, es, ep, h1, h2, _⟩ := (show ObjOk X.prog X.w H s.heap a (.dT kvs) from I.hok a _ ea)
    exact PySem.W.kia_one PySem.W.kitx_dict I.kIn ⟨o, h1, h2.1⟩ e (fun z => nomatch z) h
  | @ins a C dx fs ea cl ha hn htk hm =>
    cases (show u = Value.ref a from rx)
    obtain ⟨mA, O, _⟩ := ins_get I.hok ea
    obtain ⟨od, J, _⟩ := O.look
    exact PySem.W.kia_one (PySem.W.kitx_own (cl.get _) cl.hd ha hn htk hm) I.kIn J e (fun z => nomatch z) h
end
end L2

namespace L2
open PySem PySem.Spec PyProof.Rows

/-! ### room -/
structure Room (k : Nat) (A : Around) : Prop where
  hd : A.handled = none
  dp : A.depth + 3 * k + 5 < recursionLimit
  un : A.units + 16 * k + 200 < cLine
theorem Room.mono {j k : Nat} {A : Around} (r : Room k A) (h : j ≤ k) : Room j A := ⟨r.hd, by have := r.dp; omega, by have := r.un; omega⟩
theorem Room.deeper {k : Nat} {A : Around} (r : Room (k + 1) A) (env : Env) : Room k (A.deeper env) :=
  ⟨r.hd, by have := r.dp; show A.depth + 1 + 3 * k + 5 < _; omega, by have := r.un; show A.units + 3 + 16 * k + 200 < _; omega⟩
theorem make_depth {A : Around} {C : Addr} {us : List Value} {kw : List (Str × Value)} : (A.under (.builtin "type.__call__" ⟨.ref C :: us, kw⟩)).depth = A.depth + 1 := by
  first | rfl | simp [Around.under, Code.weight, Code.isCreation, Code.isGuard, Code.isCaller, Code.frames, Code.isFrame, guardIds]
theorem make_units {A : Around} {C : Addr} {us : List Value} {kw : List (Str × Value)} : (A.under (.builtin "type.__call__" ⟨.ref C :: us, kw⟩)).units = A.units + 1 := by
  first | rfl | simp [Around.under, Code.cUnits, Code.frames, Code.isFrame]
theorem Room.make {k : Nat} {A : Around} (r : Room (k + 1) A) (C : Addr) (us : List Value) (kw : List (Str × Value)) : Room k (A.under (.builtin "type.__call__" ⟨.ref C :: us, kw⟩)) :=
  ⟨r.hd, by have := r.dp; rw [make_depth]; omega, by have := r.un; rw [make_units]; omega⟩
theorem Room.depth {k : Nat} {A : Around} (r : Room k A) : A.depth < recursionLimit := by have := r.dp; omega
theorem Room.units {k : Nat} {A : Around} (r : Room k A) : A.units + 64 < cLine := by have := r.un; omega
/-! ### argument lists and displays -/
def tNil : TA := fun _ H Q => Q [] H
def tCons (ta : TE) (tr : TA) : TA := fun σ H Q => ta σ H fun x H1 => tr σ H1 fun xs H2 => Q (x :: xs) H2
section
variable {X : Cx} {e : Expr} {es : List Expr} {te : TE} {t : TA} {pos : Pos}
theorem pa_nil : PA X [] tNil := fun _ _ _ _ H Q I h => Calls.spliced_nil ⟨[], H, I, .nil, h⟩
theorem pa_cons (ha : PE X e te) (hr : PA X es t) (hs : starEach (e :: es) X.env = (false, eval e X.env) :: starEach es X.env := by rfl) : PA X (e :: es) (tCons te t) := by
  intro pos pins s σ H Q I h
  rw [hs]
  show wpAny _ _ (spliced ((false, eval e X.env) :: backTo pos (starEach es X.env))) _ _ s
  refine Calls.spliced_cons (thn (ha pins s σ H _ I h) fun u s1 ⟨x, H1, I1, r1, q1⟩ => ?_)
  exact thn (hr pos pins s1 σ H1 _ I1 q1) fun us s2 ⟨xs, H2, I2, r2, q2⟩ => ⟨x :: xs, H2, I2, .cons r1 r2, q2⟩

/-- a tuple, a list of written items -/
def tTup (t : TA) : TE := fun σ H Q => t σ H fun xs H1 => xs.length ≤ sizeLine ∧ ∀ p, H1 p = none → Q (.ref p) (upd H1 p (.tup xs))
def tLst (t : TA) : TE := fun σ H Q => t σ H fun xs H1 => xs.length ≤ sizeLine ∧ ∀ p, H1 p = none → Q (.ref p) (upd H1 p (.lst xs))
theorem pe_tup {x1} (h : PA X es t) : PE X (.Tuple es x1 pos) (tTup t) := by
  intro pins s σ H Q I hq
  refine wpAny_Tuple_spliced (thn (h pos pins s σ H _ I hq) fun us s1 ⟨xs, H1, I1, r, z, q⟩ => ⟨by rw [← r.length]; exact z, ?_⟩)
  have hf : H1 s1.heap.objs.size = none := I1.hok.fresh (Nat.le_refl _)
  refine ⟨.ref s1.heap.objs.size, upd H1 s1.heap.objs.size (.tup xs), I1.laid (t' := s1.toks) (fun b u e => Heap.get?_push_of_some _ e) (Nat.le_refl _) ?_, rfl, q _ hf⟩
  exact ⟨z, us, r, ⟨_, Heap.get?_push_size _ rfl, rfl, _, rfl⟩⟩
theorem pe_lst (h : PA X es t) : PE X (.List es pos) (tLst t) := by
  intro pins s σ H Q I hq
  refine wpAny_List_spliced (thn (h pos pins s σ H _ I hq) fun us s1 ⟨xs, H1, I1, r, z, q⟩ => ⟨by rw [← r.length]; exact z, ?_⟩)
  have hf : H1 s1.heap.objs.size = none := I1.hok.fresh (Nat.le_refl _)
  refine ⟨.ref s1.heap.objs.size, upd H1 s1.heap.objs.size (.lst xs), I1.laid (t' := s1.toks) (fun b u e => Heap.get?_push_of_some _ e) (Nat.le_refl _) ?_, rfl, q _ hf⟩
  exact ⟨z, us, 0, r, Heap.get?_push_size _ rfl⟩
end

/-! ### what a def promises -/
/-- a def's promise: the bound arguments in the parameters' order, the heap, the wanted end, the wanted exception -/
abbrev Sp := List V → Hp → VK → XK → Prop
/-- how an exception lies behind a call (file 08 gives it): the callers' frames, abstract heap and state ahead of the call, the wish, the exception, the state -/
abbrev CXT := List Env → Hp → Shared → XK → Value → Shared → Prop

/-- the state at a call -/
structure Env0 (P : Program) (w : World) (K : PySem.W.Frag) (mg : Str → Option Value) (base : Heap) (A : Around) (outer : List Env) (s : Shared) (H : Hp) : Prop where
  frames : A.frames = some outer
  mod : Mod K mg base
  bs : ∀ b o, base.get? b = some o → s.heap.get? b = some o ∧ H b = none
  bsz : base.objs.size ≤ s.heap.objs.size
  funs : s.heap.FunFrames base outer
  frf : ∀ b ∈ frs outer, H b = none
  hok : HOk P w H s.heap
  bare : AllBare s.gens
/-- a call's end -/
def CE (outer : List Env) (P : Program) (w : World) (H : Hp) (s : Shared) (Q : VK) (u : Value) (s' : Shared) : Prop :=
  ∃ v H', s'.os = s.os ∧ AllBare s'.gens ∧ Un (frs outer) [] H H' s.heap s'.heap ∧ HOk P w H' s'.heap ∧ RelV v u ∧ Q v H'
def CR (CX : CXT) (outer : List Env) (P : Program) (w : World) (H : Hp) (s : Shared) (Q : VK) (E : XK) (r : Result) (s' : Shared) : Prop :=
  match r with
  | .ok (.ret u) => CE outer P w H s Q u s'
  | .ok _ => False
  | .error e => CX outer H s E e s'
structure FnOk (P : Program) (w : World) (K : PySem.W.Frag) (mg : Str → Option Value) (base : Heap) (CX : CXT) (k : Nat) (f : Addr) (fd : FuncData) (ps : List Str) (sp : Sp) : Prop where
  len : ∀ vs H Q E, sp vs H Q E → vs.length = ps.length
  run : ∀ (A : Around) (outer : List Env) (s : Shared) (H : Hp) (args : Args) (us : List Value) (vs : List V) (Q : VK) (E : XK), Room k A → Env0 P w K mg base A outer s H → BindsTo s fd args (ps.zip us) → Vals vs us → sp vs H Q E →
    codeAny (model P w) A (.call (.ref f) args) (CR CX outer P w H s Q E) s
theorem Env0.make {P : Program} {w : World} {K : PySem.W.Frag} {mg : Str → Option Value} {base : Heap} {A : Around} {outer : List Env} {s : Shared} {H : Hp} (e : Env0 P w K mg base A outer s H) (C : Addr) (us : List Value) (kw : List (Str × Value)) :
    Env0 P w K mg base (A.under (.builtin "type.__call__" ⟨.ref C :: us, kw⟩)) outer s H := ⟨by first | exact e.frames | (simpa [Around.under, Code.envs, Code.isFrame, pushEnvs] using e.frames), e.mod, e.bs, e.bsz, e.funs, e.frf, e.hok, e.bare⟩
section
variable {X : Cx} {pins : List (Addr × Obj)} {σ : St} {H : Hp} {s s' : Shared}
/-- from a body: what a callee wants -/
theorem Inv.env0 (I : Inv X pins σ H s) : Env0 X.prog X.w X.K X.mg X.base X.A X.stack s H :=
  ⟨I.ok.frames, I.ok.mod, I.bs, Nat.le_trans I.ok.bsz I.sz, I.stack, I.stkFree, I.hok, I.bare⟩
/-- behind a call -/
theorem Inv.after {Q : VK} {u : Value} (I : Inv X pins σ H s) (h : CE X.stack X.prog X.w H s Q u s') : EP X pins σ Q u s' := by
  obtain ⟨v, H', os, bare, un, hok, r, q⟩ := h
  obtain ⟨hh, g, d, t, os'⟩ := s'
  obtain rfl : os' = s.os := os
  exact ⟨v, H', I.call (h' := hh) (g' := g) (d' := d) (t' := t) (ch := []) un hok bare (fun b z => absurd z (by simp)), r, q⟩
end

/-! ### calls -/
/-- f(..): the written arguments, then the defaults dvs; E: what is wanted of an exception -/
def tCall (sp : Sp) (dvs : List V) (E : XK) (t : TA) : TE := fun σ H Q => t σ H fun vs H1 => sp (vs ++ dvs) H1 Q E
/-- o.m(..) of an instance of the class at C -/
def tMeth (C : Addr) (m : Str) (sp : Sp) (dvs : List V) (E : XK) (ta : TE) (t : TA) : TE := fun σ H Q => ta σ H fun x H1 => ∃ a dx fs, x = .ref a ∧ H1 a = some (.ins C dx fs) ∧ fs.lookup m = none ∧
  t σ H1 fun vs H2 => sp (x :: (vs ++ dvs)) H2 Q E
/-- C(..): a new instance and its dict, then __init__ -/
def tMake (C : Addr) (sp : Sp) (dvs : List V) (E : XK) (t : TA) : TE := fun σ H Q => t σ H fun vs H1 => ∀ x dx, H1 x = none → H1 dx = none → dx ≠ x →
  sp (.ref x :: (vs ++ dvs)) (upd (upd H1 dx (.own x)) x (.ins C dx [])) (fun v H2 => v = .non ∧ Q (.ref x) H2) E

/-- how the parameters are bound: us the positional arguments, kw the keywords' values by name, ds the defaults that fill up -/
def Binds (K : PySem.W.Frag) (fd : FuncData) (ps : List Str) (ds : List Value) : Prop :=
  ∀ (s : Shared) (us : List Value), K.In s.heap → (us ++ ds).length = ps.length → BindsTo s fd ⟨us, []⟩ (ps.zip (us ++ ds))
/-- every parameter is given -/
theorem Binds.all {K : PySem.W.Frag} {fd : FuncData} {ps : List Str} (h : ∀ us : List Value, us.length = ps.length → bindArgs fd ⟨us, []⟩ = pure (ps.zip us)) : Binds K fd ps [] := fun s us _ hl => by
  rw [List.append_nil] at hl ⊢
  exact .of_eq (h us hl)

/-- an exception of a callee reaches what this body wants of exceptions -/
def Passes (CX : CXT) (X : Cx) (E : XK) : Prop := ∀ (pins : List (Addr × Obj)) (σ : St) (H : Hp) (s : Shared) (e : Value) (s' : Shared), Inv X pins σ H s → CX X.stack H s E e s' → X.xe e s'

section
variable {X : Cx} {CX : CXT} {k : Nat} {f C : Addr} {fd : FuncData} {ps : List Str} {sp : Sp} {dvs : List V} {ds : List Value} {E : XK} {x m : Str} {p pos apos : Pos} {e o : Expr} {es : List Expr} {ta : TE} {t : TA}

/-- the callee runs -/
theorem run_fn {pins : List (Addr × Obj)} {σ : St} {H : Hp} {s : Shared} {Q : VK} {us : List Value} {vs : List V} (F : FnOk X.prog X.w X.K X.mg X.base CX k f fd ps sp) (hr : Room k X.A) (hb : Binds X.K fd ps ds) (hd : Vals dvs ds) (hx : Passes CX X E)
    (I : Inv X pins σ H s) (r : Vals vs us) (h : sp (vs ++ dvs) H Q E) : wpAny (model X.prog X.w) X.A (call (.ref f) us) (EP X pins σ Q) X.xe s := by
  have r2 : Vals (vs ++ dvs) (us ++ ds) := r.append hd
  have hl : (us ++ ds).length = ps.length := by rw [← r2.length]; exact F.len _ _ _ _ h
  refine wpAny_call (codeAny_mono (F.run X.A X.stack s H ⟨us, []⟩ (us ++ ds) (vs ++ dvs) Q E hr I.env0 (hb s us I.kIn hl) r2 h) fun r s' hq => ?_)
  cases r with
  | error e => exact hx pins σ H s e s' I hq
  | ok fl =>
    cases fl with
    | ret u => exact I.after hq
    | next => exact False.elim hq
    | brk => exact False.elim hq
    | cont => exact False.elim hq

theorem pe_call (F : FnOk X.prog X.w X.K X.mg X.base CX k f fd ps sp) (hr : Room k X.A) (hg : Gl X x) (hm : X.mg x = some (.ref f)) (hk : PySem.W.keepIn X.K (.ref f) = true) (hb : Binds X.K fd ps ds) (hd : Vals dvs ds) (hx : Passes CX X E)
    (ha : PA X (e :: es) t) (hdb : (x == ("__debug__" : Str)) = false := by decide) (he : starEach (e :: es) X.env = (false, eval e X.env) :: starEach es X.env := by rfl) (hpl : (backTo pos (starEach es X.env)).any (·.1) = false := by rfl) :
    PE X (.Call (.Name x p) (e :: es) [] pos) (tCall sp dvs E t) := by
  intro pins s σ H Q I h
  refine wpAny_Call_Name_kw (ld_glob I hg hm ?_ hdb)
  refine PySem.W.callWith_K (h₀ := X.base) I.ok.mod.kin hk (thn (ha pos pins s σ H _ I h) fun us s1 ⟨vs, H1, I1, r, q⟩ => ⟨I1.kIn, ?_⟩) he hpl
  exact run_fn F hr hb hd hx I1 r q
/-- o.m(e, ..) -/
theorem pe_meth {pl : Sem Bool} (he : PE X o ta) (c : Cls X.K C) (hm : Meth X.K C m f) (F : FnOk X.prog X.w X.K X.mg X.base CX k f fd ps sp) (hr : Room k X.A) (hb : Binds X.K fd ps ds) (hd : Vals dvs ds) (hx : Passes CX X E) (ha : PA X (e :: es) t)
    (hst : starEach (e :: es) X.env = (false, eval e X.env) :: starEach es X.env := by rfl) (hpl : (backTo pos (starEach es X.env)).any (·.1) = false := by rfl)
    (ht : eval (.Call (.Attribute o m apos) (e :: es) [] pos) X.env = (do
      let ov ← eval o X.env
      standAt apos.atName
      let (f, first) ← holding [ov] (getMethod ov m pl)
      callWith pos f first (backTo pos (starEach (e :: es) X.env)) (backToKw pos (keywordEach [] X.env))) := by rfl) :
    PE X (.Call (.Attribute o m apos) (e :: es) [] pos) (tMeth C m sp dvs E ta t) := by
  intro pins s σ H Q I h
  refine PySem.W.methodCall_KW (pl := pl) (thn (he pins s σ H _ I h) fun u s1 ⟨x, H1, I1, rx, a, dx, fs, ex, ea, l, q⟩ => ?_) ht
  subst ex
  obtain rfl : u = Value.ref a := rx
  refine getmeth_ok I1 ea c hm l ?_
  refine PySem.W.callWith_K (first := [.ref a]) (h₀ := X.base) I.ok.mod.kin hm.kp (thn (ha pos pins s1 σ H1 _ I1 q) fun us s2 ⟨vs, H2, I2, r, q2⟩ => ⟨I2.kIn, ?_⟩) hst hpl
  exact run_fn (us := .ref a :: us) (vs := .ref a :: vs) F hr hb hd hx I2 (.cons rfl r) q2
/-- o.m() -/
theorem pe_meth0 {pl : Sem Bool} (he : PE X o ta) (c : Cls X.K C) (hm : Meth X.K C m f) (F : FnOk X.prog X.w X.K X.mg X.base CX k f fd ps sp) (hr : Room k X.A) (hb : Binds X.K fd ps ds) (hd : Vals dvs ds) (hx : Passes CX X E)
    (ht : eval (.Call (.Attribute o m apos) [] [] pos) X.env = (do
      let ov ← eval o X.env
      standAt apos.atName
      let (f, first) ← holding [ov] (getMethod ov m pl)
      callWith pos f first (backTo pos (starEach [] X.env)) (backToKw pos (keywordEach [] X.env))) := by rfl) :
    PE X (.Call (.Attribute o m apos) [] [] pos) (tMeth C m sp dvs E ta tNil) := by
  intro pins s σ H Q I h
  refine PySem.W.methodCall_KW (pl := pl) (thn (he pins s σ H _ I h) fun u s1 ⟨x, H1, I1, rx, a, dx, fs, ex, ea, l, q⟩ => ?_) ht
  subst ex
  obtain rfl : u = Value.ref a := rx
  refine getmeth_ok I1 ea c hm l ?_
  exact PySem.W.callWith_K0 (first := [.ref a]) I1.kIn hm.kp (run_fn (us := [.ref a]) (vs := [.ref a]) F hr hb hd hx I1 (.cons rfl .nil) q)

/-- what a class must have to be made -/
structure Mk (K : PySem.W.Frag) (C f : Addr) : Prop where
  makes : PySem.W.makesIn K C = true
  init : PySem.W.findIn K (.ref C) "__init__" = some (some (.ref f))
  fn : PySem.W.isFn K (.ref f) = true
  kp : PySem.W.keepIn K (.ref C) = true

theorem run_make {pins : List (Addr × Obj)} {σ : St} {H : Hp} {s : Shared} {Q : VK} {us : List Value} {vs : List V} (M : Mk X.K C f) (F : FnOk X.prog X.w X.K X.mg X.base CX k f fd ps sp) (hr : Room (k + 1) X.A) (hb : Binds X.K fd ps ds) (hd : Vals dvs ds)
    (hx : Passes CX X E) (I : Inv X pins σ H s) (r : Vals vs us)
    (h : ∀ x dx, H x = none → H dx = none → dx ≠ x → sp (.ref x :: (vs ++ dvs)) (upd (upd H dx (.own x)) x (.ins C dx [])) (fun v H2 => v = .non ∧ Q (.ref x) H2) E) :
    wpAny (model X.prog X.w) X.A (call (.ref C) us) (EP X pins σ Q) X.xe s := by
  have hq := h (s.heap.objs.size + 1) s.heap.objs.size (I.hok.fresh (Nat.le_succ _)) (I.hok.fresh (Nat.le_refl _)) (Nat.ne_of_lt (Nat.lt_succ_self _))
  have I2 := Inv.made (C := C) I
  have r2 : Vals (V.ref (s.heap.objs.size + 1) :: (vs ++ dvs)) (Value.ref (s.heap.objs.size + 1) :: (us ++ ds)) := .cons rfl (r.append hd)
  have hl : (Value.ref (s.heap.objs.size + 1) :: us ++ ds).length = ps.length := by
    have e := r2.length
    rw [F.len _ _ _ _ hq] at e
    exact e.symm
  refine wpAny_call (make_map (f := f) I.kIn M.makes M.init (beq_iff_eq.mp M.fn) (codeAny_mono (F.run _ X.stack _ _ ⟨Value.ref (s.heap.objs.size + 1) :: us, []⟩ (Value.ref (s.heap.objs.size + 1) :: (us ++ ds)) _ _ E (hr.make C us [])
    (I2.env0.make C us []) (hb _ (Value.ref (s.heap.objs.size + 1) :: us) I2.kIn hl) r2 hq) fun r s' hq' => ?_))
  cases r with
  | error e => exact hx pins σ _ _ e s' I2 hq'
  | ok fl =>
    cases fl with
    | ret u =>
      obtain ⟨v, H', I3, rv, ev, q3⟩ := I2.after hq'
      subst ev
      exact ⟨rv, ⟨V.ref (s.heap.objs.size + 1), H', I3, rfl, q3⟩⟩
    | next => exact False.elim hq'
    | brk => exact False.elim hq'
    | cont => exact False.elim hq'
theorem pe_make0 (M : Mk X.K C f) (F : FnOk X.prog X.w X.K X.mg X.base CX k f fd ps sp) (hr : Room (k + 1) X.A) (hg : Gl X x) (hm : X.mg x = some (.ref C)) (hb : Binds X.K fd ps ds) (hd : Vals dvs ds) (hx : Passes CX X E)
    (hdb : (x == ("__debug__" : Str)) = false := by decide) : PE X (.Call (.Name x p) [] [] pos) (tMake C sp dvs E tNil) := by
  intro pins s σ H Q I h
  refine wpAny_Call_Name_kw (ld_glob I hg hm ?_ hdb)
  exact PySem.W.callWith_K0 I.kIn M.kp (run_make (us := []) M F hr hb hd hx I .nil h)
end

/-! ### keywords -/
section
variable {X : Cx} {CX : CXT} {k : Nat} {f C : Addr} {fd : FuncData} {ps ks : List Str} {sp : Sp} {E : XK} {x m : Str} {p pos apos kpos : Pos} {e o : Expr} {es : List Expr} {kws : List Keyword} {te ta : TE} {t tk : TA} {nm : Option Str}
variable {g : List Value → List Value → List Value} {gV : List V → List V → List V}
end

/-! ### a def's body keeps its promise -/
/-- names: the parameters first -/
structure FnScope (N P : List Str) (sc : Scope) : Prop where
  kind : sc.kind = .function
  co : sc.isCoroutine = false
  gen : sc.isGenerator = false
  nd : N.Nodup
  pre : N.take P.length = P
  par : ∀ x ∈ P, sc.names.lookup x = some .local ∨ sc.names.lookup x = some .cell
  nofree : ∀ y ∈ sc.names, y.2 ≠ .free

theorem bindL_out {kindOf : Str → Option NameKind} {x : Str} : ∀ {binds : List (Str × Value)} {m : Str → Option Value}, (∀ v, (x, v) ∉ binds) → bindL kindOf binds m x = m x
  | [], _, _ => rfl
  | (n, v) :: r, m, h => by
    unfold bindL
    rw [bindL_out fun w hw => h w (List.mem_cons_of_mem _ hw)]
    split
    · have : x ≠ n := by rintro rfl; exact h v List.mem_cons_self
      simp [this]
    · rfl
theorem bindC_out {kindOf : Str → Option NameKind} {x : Str} : ∀ {binds : List (Str × Value)} {m : Str → Option Value}, (∀ v, (x, v) ∉ binds) → bindC kindOf binds m x = m x
  | [], _, _ => rfl
  | (n, v) :: r, m, h => by
    unfold bindC
    rw [bindC_out fun w hw => h w (List.mem_cons_of_mem _ hw)]
    split
    · rfl
    · have : x ≠ n := by rintro rfl; exact h v List.mem_cons_self
      simp [this]
theorem bindL_get {kindOf : Str → Option NameKind} {x : Str} {v : Value} : ∀ {P : List Str} {vs : List Value} {i : Nat} {m : Str → Option Value}, P.Nodup → P[i]? = some x → vs[i]? = some v → kindOf x = some .local →
    bindL kindOf (P.zip vs) m x = some v
  | [], _, _, _, _, h, _, _ => by simp at h
  | _ :: _, [], _, _, _, _, h, _ => by simp at h
  | p :: P, w :: vs, 0, m, nd, h1, h2, hk => by
    simp at h1 h2; subst h1; subst h2
    show bindL kindOf ((p, w) :: P.zip vs) m p = _
    unfold bindL
    rw [bindL_out fun v hv => (List.nodup_cons.mp nd).1 (List.of_mem_zip hv).1, if_pos hk]
    simp
  | p :: P, w :: vs, i + 1, m, nd, h1, h2, hk => by
    show bindL kindOf ((p, w) :: P.zip vs) m x = _
    unfold bindL
    exact bindL_get (i := i) (List.nodup_cons.mp nd).2 (by simpa using h1) (by simpa using h2) hk
theorem bindC_get {kindOf : Str → Option NameKind} {x : Str} {v : Value} : ∀ {P : List Str} {vs : List Value} {i : Nat} {m : Str → Option Value}, P.Nodup → P[i]? = some x → vs[i]? = some v → kindOf x ≠ some .local →
    bindC kindOf (P.zip vs) m x = some v
  | [], _, _, _, _, h, _, _ => by simp at h
  | _ :: _, [], _, _, _, _, h, _ => by simp at h
  | p :: P, w :: vs, 0, m, nd, h1, h2, hk => by
    simp at h1 h2; subst h1; subst h2
    show bindC kindOf ((p, w) :: P.zip vs) m p = _
    unfold bindC
    rw [bindC_out fun v hv => (List.nodup_cons.mp nd).1 (List.of_mem_zip hv).1, if_neg hk]
    simp
  | p :: P, w :: vs, i + 1, m, nd, h1, h2, hk => by
    show bindC kindOf ((p, w) :: P.zip vs) m x = _
    unfold bindC
    exact bindC_get (i := i) (List.nodup_cons.mp nd).2 (by simpa using h1) (by simpa using h2) hk

/-- the names' values at the entry -/
def start (N : List Str) (vs : List V) : St := vs.map some ++ List.replicate (N.length - vs.length) none

/-- the context of a def's body, at its entry; an exception leaves the frame, then lies as CX says -/
def cxOf (CX : CXT) (P : Program) (w : World) (K : PySem.W.Frag) (mg : Str → Option Value) (base : Heap) (N : List Str) (qual : Str) (scope : Scope) (f : Addr) (cd : Value) (A : Around) (outer : List Env) (s : Shared) (H : Hp) (E : XK) : Cx where
  prog := P
  w := w
  K := K
  mg := mg
  base := base
  A := A.deeper (envOfC qual scope s.heap.objs.size f cd)
  N := N
  s₀ := s
  H₀ := H
  env := envOfC qual scope s.heap.objs.size f cd
  outer := outer
  stack := envOfC qual scope s.heap.objs.size f cd :: outer
  ex := []
  calm := true
  fn := fun _ => true
  pn := []
  xe := fun e s' => wpAny (model P w) (A.deeper (envOfC qual scope s.heap.objs.size f cd)) (leaving (envOfC qual scope s.heap.objs.size f cd) e) (fun _ s'' => CX outer H s E e s'') (fun e' s'' => CX outer H s E e' s'') s'

theorem cell_has {sc : Scope} {n : Nat} {x : Str} (h : sc.names.lookup x = some .cell) : ∃ c, (cellsFrom n sc.names []).lookup x = some c := by
  have q := PySem.W.cellsFrom_some sc.names n [] (.inl h)
  exact Option.isSome_iff_exists.mp q

theorem inv_start {CX : CXT} {P : Program} {w : World} {K : PySem.W.Frag} {mg : Str → Option Value} {base : Heap} {N ps : List Str} {qual : Str} {scope : Scope} {f : Addr} {cd : Value} {A : Around} {outer : List Env} {s s1 : Shared} {H : Hp} {E : XK} {us : List Value} {vs : List V}
    (S : FnScope N ps scope) (hd : A.handled = none) (e0 : Env0 P w K mg base A outer s H) (hl : vs.length = ps.length) (r : Vals vs us)
    (x : InCallC s s.heap.objs.size (bindL (envOfC qual scope s.heap.objs.size f cd).kindOf (ps.zip us) fun _ => none) (cellsFrom (s.heap.objs.size + 1) scope.names []) (bindC (envOfC qual scope s.heap.objs.size f cd).kindOf (ps.zip us) fun _ => none) s1) :
    Inv (cxOf CX P w K mg base N qual scope f cd A outer s H E) [] (start N vs) H s1 := by
  have hpl : ps.length ≤ N.length := by have := congrArg List.length S.pre; rw [List.length_take] at this; omega
  obtain ⟨h1, tk, rfl, hk⟩ := x.done
  have noA : ∀ b : Addr, b ∉ (cxOf CX P w K mg base N qual scope f cd A outer s H E).ex := fun b z => absurd (show b ∈ ([] : List Addr) from z) (by simp)
  refine ⟨⟨e0.mod, S.kind, rfl, rfl, Nat.le_refl _, fun y z c h1 h2 => ?_, fun y hy => ?_, fun y c _ h => ?_, fun _ => hd, Around.frames_deeper e0.frames, .inr ⟨rfl, rfl⟩, fun b z => absurd z (noA b), e0.bs, e0.bsz, fun b _ _ => noA b, fun b z => absurd z (noA b), e0.funs, e0.frf⟩,
    rfl, e0.bare, Un.kept hk, ⟨_, x.toInCall.ns, fun i y v h1 h2 h3 => ?_⟩, fun y c h => ⟨_, x.cell y c h⟩, e0.hok.fresh (Nat.le_refl _), fun y c h => ?_, fun p hp => absurd (show p ∈ ([] : List (Addr × Obj)) from hp) (by simp), e0.hok.kept hk, ?_⟩
  · exact name_of_addr x.apart (PySem.mem_of_lookup h1) (PySem.mem_of_lookup h2)
  · have hy : scope.names.lookup y = some .cell ∨ scope.names.lookup y = some .free := hy
    rcases hy with hy | hy
    · exact cell_has hy
    · exact absurd rfl (S.nofree _ (PySem.mem_of_lookup hy))
  · exact Nat.le_of_lt (x.above y c (PySem.mem_of_lookup h))
  · have hi : i < vs.length := by
      unfold start at h2
      by_cases hi : i < vs.length
      · exact hi
      · rw [List.getElem?_append_right (by simpa using hi)] at h2
        rw [List.getElem?_replicate] at h2
        split at h2 <;> cases h2
    have ha : vs[i]? = some v := by
      unfold start at h2
      rw [List.getElem?_append_left (by simpa using hi), List.getElem?_map] at h2
      cases e : vs[i]? with
      | none => rw [e] at h2; cases h2
      | some a => rw [e] at h2; cases h2; rfl
    obtain ⟨u, hu, rv⟩ := r.get ha
    have hp : ps[i]? = some y := by
      rw [← S.pre, List.getElem?_take_of_lt (by omega)]; exact h1
    have ndP : ps.Nodup := by rw [← S.pre]; exact S.nd.sublist (List.take_sublist _ _)
    refine ⟨u, rv, ?_⟩
    rcases S.par y (List.mem_of_getElem? hp) with k | k
    · exact .inl ⟨k, bindL_get ndP hp hu k⟩
    · obtain ⟨c, e⟩ := cell_has (n := s.heap.objs.size + 1) k
      refine .inr ⟨.inl k, c, e, ?_⟩
      have q := x.cell y c e
      rw [bindC_get ndP hp hu (by show scope.names.lookup y ≠ _; rw [k]; decide)] at q
      exact q
  · exact e0.hok.fresh (Nat.le_of_lt (x.above y c (PySem.mem_of_lookup h)))
  · unfold start
    show _ = N.length
    rw [List.length_append, List.length_map, List.length_replicate]
    omega

/-- THE RULE: a def (or a method) of the text, by its body. The body's reading t is chosen for each entry; it is run at the parameters' values -/
theorem fn_of {CX : CXT} {P : Program} {w : World} {K : PySem.W.Frag} {mg : Str → Option Value} {base : Heap} {k : Nat} {f : Addr} {name qual : Str} {params : Arguments} {body : List Stmt} {scope : Scope} {dV kV doc pm cdv ct oc : Value} {an od : Option Addr}
    {osl : Array (Option Value)} {N ps : List Str} {sp : Sp} (lk : K.lookup f = some ⟨oc, od, .func (PySem.W.fnOf name qual params body scope dV kV doc pm an cdv ct), osl⟩) (hcd : PySem.W.codeIn K cdv qual = true) (S : FnScope N ps scope)
    (len : ∀ vs H Q E, sp vs H Q E → vs.length = ps.length)
    (hbody : ∀ (A : Around) (outer : List Env) (s : Shared) (H : Hp) (vs : List V) (Q : VK) (E : XK), Room k (A.deeper (envOfC qual scope s.heap.objs.size f cdv)) → sp vs H Q E →
      ∃ t, PSs (cxOf CX P w K mg base N qual scope f cdv A outer s H E) body t ∧ t { nx := fun _ H' => Q .non H', rt := Q } (start N vs) H) :
    FnOk P w K mg base CX (k + 1) f (PySem.W.fnOf name qual params body scope dV kV doc pm an cdv ct) ps sp := by
  refine ⟨len, fun A outer s H args us vs Q E hr e0 hb r hsp => ?_⟩
  have hl := len _ _ _ _ hsp
  have KX : K.In s.heap := e0.mod.kin.keeps fun b o e => (e0.bs b o e).1
  have lim : s.heap.NoLimit := e0.mod.nolimit.keeps fun b o e => (e0.bs b o e).1
  have hkind : ∀ y ∈ ps.zip us, scope.names.lookup y.1 = some .local ∨ (scope.names.lookup y.1 = some .cell ∧ ((cellsFrom (s.heap.objs.size + 1) scope.names []).lookup y.1).isSome = true) := fun ⟨n, v⟩ hy => by
    rcases S.par n (List.of_mem_zip hy).1 with q | q
    · exact .inl q
    · exact .inr ⟨q, PySem.W.cellsFrom_some _ _ _ (.inl q)⟩
  refine codeAny_call_function hr.depth (KX _ _ lk) rfl S.co S.gen rfl (PySem.W.codeRec_of KX hcd) (hb _ _ _ _ ?_)
  refine wpAny_newFunctionEnv_cells S.kind hkind fun env he s1 x => ?_
  subst he
  refine ⟨lim.keeps x.toInCall.keep, codeAny_func ?_⟩
  obtain ⟨t, ht, hq⟩ := hbody A outer s H vs Q E (hr.deeper _) hsp
  have I : Inv (cxOf CX P w K mg base N qual scope f cdv A outer s H E) [] (start N vs) H s1 := inv_start S hr.hd e0 hl r x
  refine wpAny_mono (ht [] s1 (start N vs) H _ I hq) (fun fl s' hs => ?_) fun e s' hs => hs
  have fin : ∀ {σ' : St} {H' : Hp} {v : V} {u : Value}, Inv (cxOf CX P w K mg base N qual scope f cdv A outer s H E) [] σ' H' s' → RelV v u → Q v H' → CE outer P w H s Q u s' :=
    fun {σ' H' v u} J rv q => ⟨v, H', J.os, J.bare, J.base, J.hok, rv, q⟩
  cases fl with
  | ret u =>
    obtain ⟨v, σ', H', J, rv, q⟩ := hs
    exact fin J rv q
  | next =>
    obtain ⟨σ', H', J, q⟩ := hs
    exact fin (v := V.non) (u := Value.none) J rfl q
  | brk =>
    obtain ⟨_, _, _, q⟩ := hs
    exact False.elim q
  | cont =>
    obtain ⟨_, _, _, q⟩ := hs
    exact False.elim q
end L2

namespace L2
open PySem PySem.Spec PyProof.Rows
section
variable {X : Cx} {x : Str} {p pos : Pos} {e : Expr} {es : List Expr} {t : TA} {id T : String} {r : List V → Hp → VK → Prop}

def tCB (r : List V → Hp → VK → Prop) (t : TA) : TE := fun σ H Q => t σ H fun vs H1 => r vs H1 Q
/-- f(e, ..), f a built-in function -/
theorem pe_callB (hc : CallR X (.builtin id) r) (hg : Gl X x) (hm : X.mg x = none) (hv : bootBuiltins x = some (.builtin id)) (ha : PA X (e :: es) t) (hn : x ≠ "__name__" := by decide) (hdb : (x == ("__debug__" : Str)) = false := by decide)
    (he : starEach (e :: es) X.env = (false, eval e X.env) :: starEach es X.env := by rfl) (hpl : (backTo pos (starEach es X.env)).any (·.1) = false := by rfl) : PE X (.Call (.Name x p) (e :: es) [] pos) (tCB r t) := by
  intro pins s σ H Q I h
  refine wpAny_Call_Name_kw (ld_blt I hg hm hv ?_ hn hdb)
  exact PyProof.Rows.callWith_builtin1 (thn (ha pos pins s σ H _ I h) fun us s1 ⟨vs, H1, I1, r1, q1⟩ => hc pins s1 σ H1 vs us Q I1 r1 q1) he hpl
/-- T(e, ..), T a built-in type -/
theorem pe_callTy (hc : CallR X (.type T) r) (hg : Gl X x) (hm : X.mg x = none) (hv : bootBuiltins x = some (.type T)) (ha : PA X (e :: es) t) (hn : x ≠ "__name__" := by decide) (hdb : (x == ("__debug__" : Str)) = false := by decide)
    (he : starEach (e :: es) X.env = (false, eval e X.env) :: starEach es X.env := by rfl) (hpl : (backTo pos (starEach es X.env)).any (·.1) = false := by rfl) : PE X (.Call (.Name x p) (e :: es) [] pos) (tCB r t) := by
  intro pins s σ H Q I h
  refine wpAny_Call_Name_kw (ld_blt I hg hm hv ?_ hn hdb)
  exact PyProof.Rows.callWith_type1 (thn (ha pos pins s σ H _ I h) fun us s1 ⟨vs, H1, I1, r1, q1⟩ => hc pins s1 σ H1 vs us Q I1 r1 q1) he hpl
end
end L2

namespace HT
open PySem PyProof.Rows

section
open PySem.SeqAt
open PySem.AutoSeq1 (wpAny_loadPart')
open PySem.MeetsSeq PySem.MeetsSeq2 PySem.MeetsSeq3

end

section
variable {prog : Program} {w : World} {A : Around} {E : Value → Shared → Prop} {s : Shared}

/-! ### t[a:b], not the whole -/
/-- a slice's bound as a place among n (d where it is left out) -/
def sIx (n d : Nat) : Option Int → Nat
  | none => d
  | some v => if v < 0 then (v + (n : Int)).toNat else min v.toNat n
theorem sIx_none (n d : Nat) : sIx n d none = d := rfl
theorem sIx_nat (n d k : Nat) : sIx n d (some (k : Int)) = min k n := by
  show (if (k : Int) < 0 then ((k : Int) + (n : Int)).toNat else min (k : Int).toNat n) = min k n
  rw [if_neg (by omega), Int.toNat_natCast]
end
end HT

namespace L2
open PySem PySem.Spec PyProof.Rows

/-! ### the parts of a slice -/
abbrev TO := St → Hp → (Option Int → Hp → Prop) → Prop
/-- a slice's part (left out, or an int) -/
def PO (X : Cx) (e : Option Expr) (t : TO) : Prop :=
  ∀ (pins : List (Addr × Obj)) (s : Shared) (σ : St) (H : Hp) (Q : Option Int → Hp → Prop), Inv X pins σ H s → t σ H Q →
    wpAny (model X.prog X.w) X.A (evalPart e X.env) (fun u s' => ∃ o H', Inv X pins σ H' s' ∧ IsPart u o ∧ Q o H') X.xe s
def tNoPart : TO := fun _ H Q => Q none H
def tPart (t : TE) : TO := fun σ H Q => t σ H fun x H1 => ∃ i, x = .int i ∧ Q (some i) H1

section
variable {X : Cx} {e : Expr} {te : TE} {lo hi : Option Expr} {tl th : TO} {pos p2 : Pos}

theorem po_none : PO X none tNoPart := by
  intro pins s σ H Q I h
  rw [evalPart_none]
  exact wpAny_pure ⟨none, H, I, .none, h⟩
theorem po_some (h : PE X e te) : PO X (some e) (tPart te) := by
  intro pins s σ H Q I hw
  rw [evalPart_some]
  refine thn (h pins s σ H _ I hw) fun u s1 ⟨x, H1, I1, r1, q1⟩ => ?_
  obtain ⟨i, rfl, q⟩ := q1
  obtain ⟨t, rfl⟩ := r1
  exact ⟨some i, H1, I1, .int i t, q⟩

/-- what a slice of a value is, by values: the slice object stands at sl -/
def SlR (X : Cx) (r : V → Option Int → Option Int → Hp → VK → Prop) : Prop :=
  ∀ (pins : List (Addr × Obj)) (s : Shared) (σ : St) (H : Hp) (x : V) (v vl vu : Value) (lo hi : Option Int) (sl : Addr) (Q : VK), Inv X pins σ H s → RelV x v → s.heap.IsSliceOf sl vl vu .none → IsPart vl lo → IsPart vu hi → r x lo hi H Q →
    ∃ T id, typeLookup (.type T) "__getitem__" = pure (some (.builtin id)) ∧ s.TypeIs v T ∧ wpAny (model X.prog X.w) X.A (getItem v (.ref sl)) (EP X pins σ Q) X.xe s
def tSl (r : V → Option Int → Option Int → Hp → VK → Prop) (te : TE) (tl th : TO) : TE := fun σ H Q => te σ H fun x H1 => tl σ H1 fun l H2 => th σ H2 fun u H3 => r x l u H3 Q
/-- a[lo:hi], any a -/
theorem pe_slice {r : V → Option Int → Option Int → Hp → VK → Prop} (hr : SlR X r) (he : PE X e te) (hl : PO X lo tl) (hu : PO X hi th) : PE X (.Subscript e (.Slice lo hi none p2) pos) (tSl r te tl th) := by
  intro pins s σ H Q I h
  refine Subscript_ (thn (he pins s σ H _ I h) fun v s1 ⟨x, H1, I1, r1, q1⟩ => ?_)
  refine wpAny_Slice (thn (hl pins s1 σ H1 _ I1 q1) fun vl s2 ⟨l, H2, I2, pl, q2⟩ => thn (hu pins s2 σ H2 _ I2 q2) fun vu s3 ⟨u, H3, I3, pu, q3⟩ => ?_)
  rw [evalPart_none]
  refine wpAny_pure ?_
  have I4 : Inv X pins σ H3 { s3 with heap := s3.heap.push { cls := .type "slice", data := .fields #[vl, vu, .none] } } := I3.kept (t' := s3.toks) fun b ob q => Heap.get?_push_of_some _ q
  obtain ⟨T, id, hT, ht, hg⟩ := hr pins { s3 with heap := s3.heap.push { cls := .type "slice", data := .fields #[vl, vu, .none] } } σ H3 x v vl vu l u s3.heap.objs.size Q I4 r1 (Heap.IsSliceOf.new ..) pl pu q3
  show wpAny (model X.prog X.w) X.A (subscriptTail e (.Slice lo hi none p2) v (.ref s3.heap.objs.size)) (EP X pins σ Q) X.xe { s3 with heap := s3.heap.push { cls := .type "slice", data := .fields #[vl, vu, .none] } }
  exact tail_any (ops := [.ref s3.heap.objs.size, v]) ht hT hg (by with_unfolding_all rfl)

/-- the items of xs[lo:hi] -/
def cutV (xs : List V) (lo hi : Option Int) : List V := (xs.drop (HT.sIx xs.length 0 lo)).take (HT.sIx xs.length xs.length hi - HT.sIx xs.length 0 lo)
theorem cutV_length (xs : List V) (lo hi : Option Int) : (cutV xs lo hi).length ≤ xs.length := by
  unfold cutV
  rw [List.length_take, List.length_drop]
  omega
/-! ### t < u, t + u -/
end
end L2

namespace L2
open PySem PySem.Spec PyProof.Rows

/-! ### places -/
/-- the place that an index of any sign means -/
def ixN (n : Nat) (i : Int) : Option Nat := if 0 ≤ i then (if i < n then some i.toNat else none) else if -(n : Int) ≤ i then some (i + n).toNat else none
def atI {α : Type} (xs : List α) (i : Int) : Option α := (ixN xs.length i).bind fun j => xs[j]?
theorem ixN_seq {n : Nat} {i : Int} {j : Nat} (h : ixN n i = some j) : seqIndex? i n = some j ∧ j < n ∧ -(n : Int) ≤ i ∧ i < n := by
  unfold ixN at h
  by_cases h0 : 0 ≤ i
  · rw [if_pos h0] at h
    by_cases h1 : i < n
    · rw [if_pos h1] at h
      have e : i.toNat = j := Option.some.inj h
      exact ⟨by rw [seqIndex_of h0 h1, e], by omega, by omega, h1⟩
    · rw [if_neg h1] at h; cases h
  · rw [if_neg h0] at h
    by_cases h1 : -(n : Int) ≤ i
    · rw [if_pos h1] at h
      have e : (i + n).toNat = j := Option.some.inj h
      exact ⟨by rw [seqIndex_neg (by omega) h1, e], by omega, h1, by omega⟩
    · rw [if_neg h1] at h; cases h
theorem atI_get {α : Type} {xs : List α} {i : Int} {v : α} (h : atI xs i = some v) : ∃ j, seqIndex? i xs.length = some j ∧ xs[j]? = some v ∧ j < xs.length ∧ -(xs.length : Int) ≤ i ∧ i < xs.length := by
  unfold atI at h
  cases e : ixN xs.length i with
  | none => rw [e] at h; cases h
  | some j =>
    rw [e] at h
    obtain ⟨h1, h2, h3, h4⟩ := ixN_seq e
    exact ⟨j, h1, h, h2, h3, h4⟩
theorem atI_nat {α : Type} {xs : List α} {j : Nat} {v : α} (h : xs[j]? = some v) : atI xs (j : Int) = some v := by
  have hj : j < xs.length := (List.getElem?_eq_some_iff.mp h).1
  have e : ixN xs.length (j : Int) = some j := by
    unfold ixN
    rw [if_pos (by omega), if_pos (by omega)]; simp
  unfold atI; rw [e]; exact h
/-! ### what may be subscripted -/
/-- what stands as an index of a plain subscript -/
def PlainIx (b : Expr) : Prop := ∀ o i, subscripted b false o i = operate [o, i] (getItem o i)
/-- a subscript by values -/
def IxR (X : Cx) (r : R2) : Prop :=
  ∀ (value slice : Expr) (pins : List (Addr × Obj)) (s : Shared) (σ : St) (H : Hp) (x y : V) (v u : Value) (Q : VK), Inv X pins σ H s → RelV x v → RelV y u → r x y H Q →
    subscripted slice false v u = operate [v, u] (getItem v u) → wpAny (model X.prog X.w) X.A (subscriptTail value slice v u) (EP X pins σ Q) X.xe s
/-- a call of a builtin's method by values: the receiver, the arguments -/
def MtR (X : Cx) (id : String) (r : V → List V → Hp → VK → Prop) : Prop :=
  ∀ (pins : List (Addr × Obj)) (s : Shared) (σ : St) (H : Hp) (x : V) (xs : List V) (v : Value) (us : List Value) (Q : VK), Inv X pins σ H s → RelV x v → Vals xs us → r x xs H Q →
    wpAny (model X.prog X.w) X.A (call (.builtin id) (v :: us)) (EP X pins σ Q) X.xe s
section
variable {X : Cx} {a b : Expr} {ta tb : TE} {pos : Pos}
/-- a[b] -/
theorem pe_ix {r : R2} (hr : IxR X r) (ha : PE X a ta) (hb : PE X b tb) (hs : PlainIx b) : PE X (.Subscript a b pos) (tOp r ta tb) := by
  intro pins s σ H Q I h
  exact Subscript_ (binT ha hb I h fun v u s2 x y H2 I2 rx ry q => hr a b pins s2 σ H2 x y v u Q I2 rx ry q (hs _ _))

def rIxL (K : PySem.W.Frag) : R2 := fun x y H Q => ∃ p xs i v, x = .ref p ∧ y = .int i ∧ SqL K H p xs ∧ atI xs i = some v ∧ Q v H
def rIxT (K : PySem.W.Frag) : R2 := fun x y H Q => ∃ p xs i v, x = .ref p ∧ y = .int i ∧ SqT K H p xs ∧ atI xs i = some v ∧ Q v H
def rIxS : R2 := fun x y H Q => ∃ z i c, x = .str z ∧ y = .int i ∧ z.length ≤ sizeLine ∧ atI z.cps.toList i = some c ∧ Q (.str ⟨#[c]⟩) H
theorem ix_list : IxR X (rIxL X.K) := by
  intro value slice pins s σ H x y v u Q I rx ry h hs
  obtain ⟨p, xs, i, z, rfl, rfl, hq, he, q⟩ := h
  cases rx
  obtain ⟨t, rfl⟩ := ry
  obtain ⟨its, r, pl, hz⟩ := I.list hq
  obtain ⟨j, h1, h2, h3, h4, h5⟩ := atI_get he
  obtain ⟨w, ew, rw'⟩ := r.get h2
  have hl := r.length
  have hn := line63
  have fin : EP X pins σ Q w s := ⟨z, H, I, rw', q⟩
  by_cases h0 : 0 ≤ i
  · have hj : i.toNat = j := by
      rw [seqIndex_of h0 h5] at h1
      exact Option.some.inj h1
    exact item_listR pl.isList h0 (by omega) (by rw [hj]; simpa using ew) fin hs
  · have hj : (i + (its.toArray.size : Int)).toNat = j := by
      rw [seqIndex_neg (by omega) h4] at h1
      rw [List.size_toArray, ← hl]
      exact Option.some.inj h1
    exact subscriptTail_builtinR (x := w) pl.isList.typeIs slot_list_getitem.lookup
      (wpAny_getItem_list_neg (Q := fun r s' => r = w ∧ EP X pins σ Q r s') pl.isList (by omega) (by rw [List.size_toArray] <;> omega) (by omega) (by rw [hj]; simpa using ew) ⟨rfl, fin⟩) hs
theorem ix_tup : IxR X (rIxT X.K) := by
  intro value slice pins s σ H x y v u Q I rx ry h hs
  obtain ⟨p, xs, i, z, rfl, rfl, hq, he, q⟩ := h
  cases rx
  obtain ⟨t, rfl⟩ := ry
  obtain ⟨its, r, pl, hz⟩ := I.tuple hq
  obtain ⟨j, h1, h2, h3, h4, h5⟩ := atI_get he
  obtain ⟨w, ew, rw'⟩ := r.get h2
  have hl := r.length
  have hn := line63
  have fin : EP X pins σ Q w s := ⟨z, H, I, rw', q⟩
  exact subscriptTail_builtinR (x := w) pl.typeIs slot_tuple_getitem.lookup
    (getItem_tuple (j := j) (Q := fun r s' => r = w ∧ EP X pins σ Q r s') pl (by omega) (by omega) (by rw [List.size_toArray, ← hl]; exact h1) (by simpa using ew) ⟨rfl, fin⟩) hs
theorem ix_str : IxR X rIxS := by
  intro value slice pins s σ H x y v u Q I rx ry h hs
  obtain ⟨z, i, c, rfl, rfl, hz, he, q⟩ := h
  obtain ⟨t, rfl⟩ := rx
  obtain ⟨t', rfl⟩ := ry
  obtain ⟨j, h1, h2, h3, h4, h5⟩ := atI_get he
  have hl : z.cps.toList.length = z.length := by simp [Str.length]
  rw [hl] at h1 h4 h5
  have hn := line63
  exact tail_any (typeIs_str s z t) slot_str_getitem.lookup (getItem_str (c := c) (by
    have e1 : decide (i < -(2 ^ 63 : Int)) = false := decide_eq_false (by omega)
    have e2 : decide (i ≥ 2 ^ 63) = false := decide_eq_false (by omega)
    rw [e1, e2, Bool.or_false]) (by rw [h1]; simpa using h2) ⟨.str ⟨#[c]⟩, H, I.tok _, ⟨_, rfl⟩, q⟩) hs
/-! ### xs[i] = v, any sign -/
/-! ### slices -/
theorem slice_bounds (lo hi : Option Int) (n : Nat) : (sliceBounds lo hi none n).1 = ((HT.sIx n 0 lo : Nat) : Int) ∧ (sliceBounds lo hi none n).2.1 = ((HT.sIx n n hi : Nat) : Int) ∧ (sliceBounds lo hi none n).2.2 = 1 := by
  refine ⟨?_, ?_, rfl⟩
  · cases lo with
    | none => simp [sliceBounds, HT.sIx]
    | some i =>
      simp only [sliceBounds, HT.sIx, Option.getD_none, show (1 : Int) > 0 by decide, if_true]
      by_cases h : i < 0
      · simp only [h, if_true] <;> omega
      · simp only [h, if_false] <;> omega
  · cases hi with
    | none => simp [sliceBounds, HT.sIx]
    | some i =>
      simp only [sliceBounds, HT.sIx, Option.getD_none, show (1 : Int) > 0 by decide, if_true]
      by_cases h : i < 0
      · simp only [h, if_true] <;> omega
      · simp only [h, if_false] <;> omega
theorem slicePick_cut (its : List Value) (lo hi : Option Int) : slicePick its.toArray lo hi none = ((its.drop (HT.sIx its.length 0 lo)).take (HT.sIx its.length its.length hi - HT.sIx its.length 0 lo)).toArray := by
  obtain ⟨h1, h2, h3⟩ := slice_bounds lo hi its.toArray.size
  unfold slicePick
  rw [h1, h2, h3]
  simp only [sliceRange_one, pick_run, List.size_toArray] <;> rfl
/-- xs[lo:hi] of a list: a new list -/
def rSlL (K : PySem.W.Frag) : V → Option Int → Option Int → Hp → VK → Prop := fun x lo hi H Q => ∃ a xs, x = .ref a ∧ SqL K H a xs ∧ ∀ p, H p = none → Q (.ref p) (upd H p (.lst (cutV xs lo hi)))
theorem sl_list : SlR X (rSlL X.K) := by
  intro pins s σ H x v vl vu lo hi sl Q I rx hs pl pu h
  obtain ⟨a, xs, rfl, hx, q⟩ := h
  cases rx
  obtain ⟨its, r, ht, hz⟩ := I.list hx
  have hlen := r.length
  refine ⟨"list", _, slot_list_getitem.lookup, ht.isList.typeIs, ?_⟩
  refine wpAny_getItem_list_slice ht.isList hs pl pu .none (by simp) ?_ (by rw [List.size_toArray] <;> omega)
  rw [slicePick_cut, ← hlen]
  refine ⟨.ref s.heap.objs.size, _, I.laid (t' := s.toks) (o := .lst (cutV xs lo hi)) (fun b ob q => Heap.get?_push_of_some _ q) (Nat.le_refl _) ?_, rfl, q _ (I.hok.fresh (Nat.le_refl _))⟩
  exact ⟨Nat.le_trans (cutV_length xs lo hi) hz, _, 0, (r.drop (HT.sIx xs.length 0 lo)).take (HT.sIx xs.length xs.length hi - HT.sIx xs.length 0 lo), Heap.get?_push_size _ rfl⟩

/-! ### in, not in: flat items -/
def flatV : V → Bool
  | .non => true
  | .bl _ => true
  | .int _ => true
  | .str _ => true
  | _ => false
/-- == of flat values -/
def eqV : V → V → Bool
  | .non, .non => true
  | .bl a, .bl b => a == b
  | .bl a, .int b => (if a then 1 else 0) == b
  | .int a, .bl b => a == (if b then 1 else 0)
  | .int a, .int b => a == b
  | .str a, .str b => a == b
  | _, _ => false
theorem eqAt_V {A : Around} {s : Shared} {y x : V} {u v : Value} (ry : RelV y u) (rx : RelV x v) (fy : flatV y = true) (fx : flatV x = true) : SeqAt.EqAt A s u v (eqV y x) := by
  cases y with
  | non =>
    cases ry
    cases x with
    | non => cases rx; exact SeqAt.EqAt.same _
    | bl b => cases rx; exact SeqAt.EqAt.none_bool b
    | int b => obtain ⟨t, rfl⟩ := rx; exact SeqAt.EqAt.none_int b t
    | str b => obtain ⟨t, rfl⟩ := rx; exact SeqAt.EqAt.none_str b t
    | _ => exact absurd (show false = true from fx) Bool.false_ne_true
  | bl a =>
    cases ry
    cases x with
    | non => cases rx; exact SeqAt.EqAt.bool_none a
    | bl b => cases rx; exact SeqAt.EqAt.bool_bool a b
    | int b => obtain ⟨t, rfl⟩ := rx; exact SeqAt.EqAt.bool_int a b t
    | str b => obtain ⟨t, rfl⟩ := rx; exact SeqAt.EqAt.bool_str a b t
    | _ => exact absurd (show false = true from fx) Bool.false_ne_true
  | int a =>
    obtain ⟨t', rfl⟩ := ry
    cases x with
    | non => cases rx; exact SeqAt.EqAt.int_none a t'
    | bl b => cases rx; exact SeqAt.EqAt.int_bool a t' b
    | int b => obtain ⟨t, rfl⟩ := rx; exact SeqAt.EqAt.int_int a t' b t
    | str b => obtain ⟨t, rfl⟩ := rx; exact SeqAt.EqAt.int_str a t' b t
    | _ => exact absurd (show false = true from fx) Bool.false_ne_true
  | str a =>
    obtain ⟨t', rfl⟩ := ry
    cases x with
    | non => cases rx; exact SeqAt.EqAt.str_none a t'
    | bl b => cases rx; exact SeqAt.EqAt.str_bool a t' b
    | int b => obtain ⟨t, rfl⟩ := rx; exact SeqAt.EqAt.str_int a t' b t
    | str b => obtain ⟨t, rfl⟩ := rx; exact SeqAt.EqAt.str_str a t' b t
    | _ => exact absurd (show false = true from fx) Bool.false_ne_true
  | _ => exact absurd (show false = true from fy) Bool.false_ne_true
/-- the items' answers, read off the values (a value's own answer does not lean on its token) -/
def eqU (x : V) (u : Value) : Bool := match u with
  | .none => eqV .non x
  | .bool b => eqV (.bl b) x
  | .int i _ => eqV (.int i) x
  | .str z _ => eqV (.str z) x
  | _ => false
theorem eqU_of {x y : V} {u : Value} (r : RelV y u) (f : flatV y = true) : eqU x u = eqV y x := by
  cases y with
  | non => cases r; rfl
  | bl b => cases r; rfl
  | int i => obtain ⟨t, rfl⟩ := r; rfl
  | str z => obtain ⟨t, rfl⟩ := r; rfl
  | _ => exact absurd (show false = true from f) Bool.false_ne_true
theorem any_eqU {x : V} : ∀ {xs : List V} {us : List Value}, Vals xs us → xs.all flatV = true → us.any (eqU x) = xs.any fun y => eqV y x
  | _, _, .nil, _ => rfl
  | y :: xs, u :: us, .cons r t, f => by
    rw [List.all_cons, Bool.and_eq_true] at f
    rw [List.any_cons, List.any_cons, eqU_of r f.1, any_eqU t f.2]
theorem mem_eqAt {A : Around} {s : Shared} {x : V} {v : Value} (rx : RelV x v) (fx : flatV x = true) : ∀ {xs : List V} {us : List Value}, Vals xs us → xs.all flatV = true → ∀ u ∈ us, SeqAt.EqAt A s u v (eqU x u)
  | _, _, .nil, _ => fun u hu => by cases hu
  | y :: xs, u :: us, .cons r t, f => fun u' hu => by
    rw [List.all_cons, Bool.and_eq_true] at f
    rcases List.mem_cons.mp hu with rfl | hu
    · rw [eqU_of r f.1]; exact eqAt_V r rx f.1 fx
    · exact mem_eqAt rx fx t f.2 u' hu
def inV (x : V) (xs : List V) : Bool := xs.any fun y => eqV y x
/-- x in a list or tuple of flat items -/
def rIn (K : PySem.W.Frag) (neg : Bool) : R2 := fun x y H Q => ∃ p xs, y = .ref p ∧ (SqL K H p xs ∨ SqT K H p xs) ∧ flatV x = true ∧ xs.all flatV = true ∧ Q (.bl (if neg then !inV x xs else inV x xs)) H
theorem op_in_seq : OpR X (compareOp .In) (rIn X.K false) := by
  intro pins s σ H x y v u Q I rx ry h
  obtain ⟨p, xs, rfl, hq, fx, fs, q⟩ := h
  cases ry
  rcases hq with hq | hq
  · obtain ⟨its, r, pl, hz⟩ := I.list hq
    refine SeqAt.in_listAt (eqU x) pl.isList (fun w hw => mem_eqAt rx fx r fs w (by simpa using hw)) ⟨.bl _, H, I, rfl, ?_⟩
    rw [show its.toArray.any (eqU x) = its.any (eqU x) by simp, any_eqU r fs]
    exact q
  · obtain ⟨its, r, pl, hz⟩ := I.tuple hq
    refine SeqAt.in_tupleAt (eqU x) pl (fun w hw => mem_eqAt rx fx r fs w (by simpa using hw)) ⟨.bl _, H, I, rfl, ?_⟩
    rw [show its.toArray.any (eqU x) = its.any (eqU x) by simp, any_eqU r fs]
    exact q
theorem op_notIn_seq : OpR X (compareOp .NotIn) (rIn X.K true) := by
  intro pins s σ H x y v u Q I rx ry h
  obtain ⟨p, xs, rfl, hq, fx, fs, q⟩ := h
  cases ry
  rcases hq with hq | hq
  · obtain ⟨its, r, pl, hz⟩ := I.list hq
    refine SeqAt.notIn_listAt (eqU x) pl.isList (fun w hw => mem_eqAt rx fx r fs w (by simpa using hw)) ⟨.bl _, H, I, rfl, ?_⟩
    rw [show its.toArray.any (eqU x) = its.any (eqU x) by simp, any_eqU r fs]
    exact q
  · obtain ⟨its, r, pl, hz⟩ := I.tuple hq
    refine SeqAt.notIn_tupleAt (eqU x) pl (fun w hw => mem_eqAt rx fx r fs w (by simpa using hw)) ⟨.bl _, H, I, rfl, ?_⟩
    rw [show its.toArray.any (eqU x) = its.any (eqU x) by simp, any_eqU r fs]
    exact q
/-! ### len, list(x), tuple(x) of any list or tuple that is read -/
theorem call_len_seq : CallR X (.builtin "len") (fun xs H Q => ∃ p ys, xs = [.ref p] ∧ (SqL X.K H p ys ∨ SqT X.K H p ys) ∧ Q (.int ys.length) H) := by
  intro pins s σ H xs us Q I r h
  obtain ⟨p, ys, rfl, hq, q⟩ := h
  obtain ⟨u, rfl, rx⟩ := vals1 r
  cases rx
  have hn := line63
  rcases hq with hq | hq
  · obtain ⟨its, r', pl, hz⟩ := I.list hq
    have hlen := r'.length
    exact Calls.call_len_list pl.isList (by simp only [List.size_toArray] <;> omega) ⟨.int ys.length, H, I.tok _, ⟨s.toks + 1, by rw [List.size_toArray, hlen]⟩, q⟩
  · obtain ⟨its, r', pl, hz⟩ := I.tuple hq
    have hlen := r'.length
    exact len_tuple pl (by simp only [List.size_toArray] <;> omega) ⟨.int ys.length, H, I.tok _, ⟨s.toks + 1, by rw [List.size_toArray, hlen]⟩, q⟩
theorem call_len_str : CallR X (.builtin "len") (fun xs H Q => ∃ z, xs = [.str z] ∧ z.length ≤ sizeLine ∧ Q (.int z.length) H) := by
  intro pins s σ H xs us Q I r h
  obtain ⟨z, rfl, hz, q⟩ := h
  obtain ⟨u, rfl, t, rfl⟩ := vals1 r
  have hn := line63
  exact len_str (by omega) ⟨.int z.length, H, I.tok _, ⟨_, rfl⟩, q⟩
theorem call_list_of : CallR X (.type "list") (fun xs H Q => ∃ p ys, xs = [.ref p] ∧ (SqL X.K H p ys ∨ SqT X.K H p ys) ∧ ∀ l, H l = none → Q (.ref l) (upd H l (.lst ys))) := by
  intro pins s σ H xs us Q I r h
  obtain ⟨p, ys, rfl, hq, q⟩ := h
  obtain ⟨u, rfl, rx⟩ := vals1 r
  cases rx
  have fin : ∀ (its : List Value), Vals ys its → ys.length ≤ sizeLine → ∀ (h' : Heap) (c' : Nat), (∀ b o', s.heap.get? b = some o' → h'.get? b = some o') →
      h'.get? s.heap.objs.size = some { cls := .type "list", dict := none, data := .seq its.toArray c', slots := #[] } → EP X pins σ Q (.ref s.heap.objs.size) { s with heap := h' } := fun its r' hz h' c' kp e =>
    ⟨.ref s.heap.objs.size, _, I.laid (t' := s.toks) kp (Nat.le_refl _) (show ObjOk X.prog X.w _ h' _ (.lst ys) from ⟨hz, its, c', r', e⟩), rfl, q _ (I.hok.fresh (Nat.le_refl _))⟩
  rcases hq with hq | hq
  · obtain ⟨its, r', pl, hz⟩ := I.list hq
    have hlen := r'.length
    obtain ⟨o, ho, hc, n, hd⟩ := pl.isList
    exact call_list_seq p (.inl rfl) ho hc hd (fun h' c' kp e => fin its r' hz h' c' kp e) (by simp only [List.size_toArray] <;> omega)
  · obtain ⟨its, r', pl, hz⟩ := I.tuple hq
    have hlen := r'.length
    obtain ⟨o, ho, hc, n, hd⟩ := pl
    exact call_list_seq p (.inr rfl) ho hc hd (fun h' c' kp e => fin its r' hz h' c' kp e) (by simp only [List.size_toArray] <;> omega)
theorem call_tuple_of : CallR X (.type "tuple") (fun xs H Q => ∃ p ys, xs = [.ref p] ∧ ((SqL X.K H p ys ∧ ∀ l, H l = none → Q (.ref l) (upd H l (.tup ys))) ∨ (SqT X.K H p ys ∧ Q (.ref p) H))) := by
  intro pins s σ H xs us Q I r h
  obtain ⟨p, ys, rfl, h⟩ := h
  obtain ⟨u, rfl, rx⟩ := vals1 r
  cases rx
  rcases h with ⟨hq, q⟩ | ⟨hq, q⟩
  · obtain ⟨its, r', pl, hz⟩ := I.list hq
    have hlen := r'.length
    refine call_tuple_list pl.isList (fun h' kp => ?_) (by simp only [List.size_toArray] <;> omega)
    have I1 : Inv X pins σ H { s with heap := h' } := I.kept (t' := s.toks) kp
    have I2 : Inv X pins σ (upd H h'.objs.size (.tup ys)) { s with heap := h'.push { cls := .type "tuple", data := .seq its.toArray } } :=
      I1.laid (t' := s.toks) (fun b o e => Heap.get?_push_of_some _ e) (Nat.le_refl _) (show ObjOk X.prog X.w _ _ _ (.tup ys) from ⟨hz, its, r', IsTup.new _ _⟩)
    exact ⟨.ref h'.objs.size, _, I2, rfl, q _ (I1.hok.fresh (Nat.le_refl _))⟩
  · obtain ⟨its, r', pl, hz⟩ := I.tuple hq
    exact call_tuple_same pl ⟨.ref p, H, I, rfl, q⟩

/-! ### the call of a builtin's method: o.m(..) -/
/-- the value is of that builtin type -/
def tyV (K : PySem.W.Frag) (T : String) (x : V) (H : Hp) : Prop := match x with
  | .str _ => T = "str"
  | .int _ => T = "int"
  | .ref p => (T = "list" ∧ ∃ xs, SqL K H p xs) ∨ (T = "tuple" ∧ ∃ o, K.lookup p = some o ∧ o.cls = .type "tuple" ∧ o.dict = none) ∨
      (T = "dict" ∧ ((∃ kvs, H p = some (.dK kvs)) ∨ ∃ kvs, H p = some (.dT kvs))) ∨ (T = "set" ∧ ∃ S n, H p = some (.set S n))
  | _ => False
theorem tyV_is {pins : List (Addr × Obj)} {σ : St} {H : Hp} {s : Shared} {T : String} {x : V} {v : Value} (I : Inv X pins σ H s) (r : RelV x v) (ty : tyV X.K T x H) :
    s.TypeIs v T ∧ ∀ a, v = .ref a → ∃ ob, s.heap.get? a = some ob ∧ ob.dict = none := by
  cases x with
  | str z =>
    obtain ⟨t, rfl⟩ := r
    cases (show T = "str" from ty)
    exact ⟨typeIs_str s z t, fun _ e => nomatch e⟩
  | int i =>
    obtain ⟨t, rfl⟩ := r
    cases (show T = "int" from ty)
    exact ⟨typeIs_int s i t, fun _ e => nomatch e⟩
  | ref p =>
    cases r
    rcases ty with ⟨rfl, xs, hq⟩ | ⟨rfl, o, hk, hc, hd⟩ | ⟨rfl, hk⟩ | ⟨rfl, S, n, hk⟩
    · obtain ⟨its, _, pl, _⟩ := I.list hq
      refine ⟨pl.isList.typeIs, fun a e => ?_⟩
      cases e
      obtain ⟨o, n, e, c, hd, _⟩ := pl
      exact ⟨o, e, hd⟩
    · refine ⟨⟨o, I.kIn p o hk, hc⟩, fun a e => ?_⟩
      cases e
      exact ⟨o, I.kIn _ o hk, hd⟩
    · have z : ∃ o, s.heap.get? p = some o ∧ o.ExactDict := by
        rcases hk with ⟨kvs, hk⟩ | ⟨kvs, hk⟩
        · obtain ⟨_, _, _, _, o, _, _, e, ex, _⟩ := I.hok p _ hk
          exact ⟨o, e, ex⟩
        · obtain ⟨_, _, _, _, o, _, _, e, ex, _⟩ := I.hok p _ hk
          exact ⟨o, e, ex⟩
      obtain ⟨o, e, ex⟩ := z
      refine ⟨⟨o, e, ex.1⟩, fun a e2 => ?_⟩
      cases e2
      exact ⟨o, e, ex.2.1⟩
    · obtain ⟨o, _, _, _, e, ex, _⟩ := I.hok p _ hk
      refine ⟨⟨o, e, ex.1⟩, fun a e2 => ?_⟩
      cases e2
      exact ⟨o, e, ex.2.1⟩
  | _ => exact False.elim ty
def tBM (K : PySem.W.Frag) (T : String) (r : V → List V → Hp → VK → Prop) (to : TE) (t : TA) : TE := fun σ H Q => to σ H fun x H1 => tyV K T x H1 ∧ t σ H1 fun xs H2 => r x xs H2 Q
variable {o e : Expr} {es : List Expr} {to : TE} {t : TA} {name : Str} {apos cpos : Pos} {T id : String} {r : V → List V → Hp → VK → Prop}
theorem pe_bm (pa : PlainAttrs T) (slot : Slot T name id) (hty : typeOf (.builtin id) = pure (.type "method_descriptor")) (hm : MtR X id r) (ho : PE X o to) (ha : PA X (e :: es) t)
    (hbase : attributeBase o name X.env (eval o X.env) = eval o X.env := by rfl)
    (hfew : ((backTo cpos (starEach (e :: es) X.env)).all (fun x => !x.1) && (backToKw cpos (keywordEach [] X.env)).all (fun x => x.1.isSome)
      && decide ((e :: es).length + ([] : List Keyword).length + (if ([] : List Keyword).isEmpty then 0 else 1) < 30)) = true := by rfl)
    (hline : (apos.endLine == cpos.line) = true := by rfl) (hs : starEach (e :: es) X.env = (false, eval e X.env) :: starEach es X.env := by rfl) (hplain : (backTo cpos (starEach es X.env)).any (·.1) = false := by rfl) :
    PE X (.Call (.Attribute o name apos) (e :: es) [] cpos) (tBM X.K T r to t) := by
  intro pins s σ H Q I h
  refine wpAny_Call_method_late hbase hfew hline rfl (thn (ho pins s σ H _ I h) fun v s1 ⟨x, H1, I1, r1, ty, q1⟩ => ?_)
  obtain ⟨h1, h2⟩ := tyV_is I1 r1 ty
  refine ⟨T, id, pa, slot, hty, h1, h2, ?_⟩
  have hA := ha cpos pins s1 σ H1 _ I1 q1
  rw [hs] at hA ⊢
  refine Calls.callWith_builtin (by show (false || (backTo cpos (starEach es X.env)).any (·.1)) = false; rw [hplain] <;> rfl) (Calls.evalArgs_plain ?_)
  exact thn hA fun us s2 ⟨vs, H2, I2, r2, q2⟩ => hm pins s2 σ H2 x vs v us Q I2 r1 r2 q2
/- xs.append(e), list.index on a module's tuple .. are MtR facts of 06m -/
end
end L2

namespace L2
open PySem PySem.Spec PyProof.Rows

def MtM (X : Cx) (id : String) (r : V → List V → Hp → VK → Prop) : Prop :=
  ∀ (pins : List (Addr × Obj)) (s : Shared) (σ : St) (H : Hp) (x : V) (xs : List V) (v : Value) (us : List Value) (Q : VK), Inv X pins σ H s → RelV x v → Vals xs us → r x xs H Q →
    wpAny (model X.prog X.w) X.A (call (.builtin id) (v :: us)) (EP X pins σ Q) X.xe s

/-! ### lists of values -/
theorem Vals.one : ∀ {x : V} {us : List Value}, Vals [x] us → ∃ u, us = [u] ∧ RelV x u
  | _, _, .cons r .nil => ⟨_, rfl, r⟩
theorem Vals.two : ∀ {x y : V} {us : List Value}, Vals [x, y] us → ∃ u v, us = [u, v] ∧ RelV x u ∧ RelV y v
  | _, _, _, .cons r (.cons q .nil) => ⟨_, _, rfl, r, q⟩
section
variable {X : Cx} {pins : List (Addr × Obj)} {σ : St} {H : Hp} {s : Shared} {l b : Addr} {xs ys zs : List V}

/-! ### the two steps: a tracked list is rewritten, a new list is laid -/
theorem Inv.lset {its its' : List Value} {n : Nat} {f : Array Value → Array Value} {t' : Nat} (I : Inv X pins σ H s) (hH : H l = some (.lst xs))
    (e : s.heap.get? l = some { cls := .type "list", data := .seq its.toArray n }) (hf : f its.toArray = its'.toArray) (hv : Vals ys its') (hz : ys.length ≤ sizeLine) :
    Inv X pins σ (upd H l (.lst ys)) { s with heap := s.heap.update l (Obj.mapSeq f), toks := t' } := by
  have q := PySem.IsL.update e f
  rw [hf] at q
  refine I.write (x := l) (e := l) (by rw [hH]; exact trivial) (.inl rfl) (fun b' u hb hu => (Heap.get?_update_other s.heap (Obj.mapSeq f) (Ne.symm hb)).trans hu) ⟨_, q⟩ ?_
  exact ⟨hz, its', _, hv, q⟩
theorem Inv.lnew {its : List Value} {t' : Nat} (I : Inv X pins σ H s) (hv : Vals ys its) (hz : ys.length ≤ sizeLine) :
    Inv X pins σ (upd H s.heap.objs.size (.lst ys)) { s with heap := s.heap.push { cls := .type "list", data := .seq its.toArray }, toks := t' } :=
  I.laid (fun _ _ q => Heap.get?_push_of_some _ q) (Nat.le_refl _) ⟨hz, its, 0, hv, Heap.get?_push_size _ rfl⟩
theorem Inv.fresh (I : Inv X pins σ H s) : H s.heap.objs.size = none := I.hok.fresh (Nat.le_refl _)
theorem Inv.lstM (I : Inv X pins σ H s) (hH : H l = some (.lst xs)) : xs.length ≤ sizeLine ∧ ∃ (its : List Value) (n : Nat), Vals xs its ∧ xs.length = its.length ∧ s.heap.get? l = some { cls := .type "list", data := .seq its.toArray n } := by
  obtain ⟨z, its, n, r, e⟩ := I.hok l _ hH
  exact ⟨z, its, n, r, r.length, e⟩

end

section
variable {X : Cx}

/-! ### methods -/
def rAppend : V → List V → Hp → VK → Prop := fun x vs H Q => ∃ l xs y, x = .ref l ∧ vs = [y] ∧ H l = some (.lst xs) ∧ xs.length < sizeLine ∧ Q .non (upd H l (.lst (xs ++ [y])))
theorem mt_append : MtM X "list.append" rAppend := by
  intro pins s σ H x vs v us Q I rx rv h
  obtain ⟨l, xs, y, rfl, rfl, hH, hz, q⟩ := h
  cases rx
  obtain ⟨u, rfl, ru⟩ := rv.one
  obtain ⟨z, its, n, r, hl, e⟩ := I.lstM hH
  refine call_meets F.slot_list_append ⟨_, e, rfl⟩ F.entry_list_append (F.args_list_append_2 _ _) (PySem.list_append l its.toArray n u (by rw [List.size_toArray]; omega)) ⟨e, ?_⟩
  refine ⟨.non, _, I.lset (its' := its ++ [u]) hH e (by simp) (r.append (.cons ru .nil)) ?_, rfl, q⟩
  rw [List.length_append, List.length_singleton]
  omega

/-! ### list + list, list += list, list * int -/
def rCat : R2 := fun x y H Q => ∃ l b xs zs, x = .ref l ∧ y = .ref b ∧ H l = some (.lst xs) ∧ H b = some (.lst zs) ∧ xs.length + zs.length ≤ sizeLine ∧ ∀ p, H p = none → Q (.ref p) (upd H p (.lst (xs ++ zs)))
theorem op_cat : OpR X (binaryOp .Add) rCat := by
  intro pins s σ H x y v u Q I rx ry h
  obtain ⟨l, b, xs, zs, rfl, rfl, hH, hB, hz, q⟩ := h
  cases rx
  cases ry
  obtain ⟨z, its, n, r, hl, e⟩ := I.lstM hH
  obtain ⟨z2, its2, n2, r2, hl2, e2⟩ := I.lstM hB
  refine PySem.P.add_list e e2 ?_ (by rw [List.size_toArray, List.size_toArray]; omega)
  have ea : its.toArray ++ its2.toArray = (its ++ its2).toArray := by simp
  rw [ea]
  exact ⟨.ref _, _, I.lnew (t' := s.toks) (r.append r2) (by rw [List.length_append]; omega), rfl, q _ I.fresh⟩
/-! ### del xs[i] -/
end

/-! ### xs[a:b] = ys -/
section
variable {prog : Program} {w : World} {A : Around} {E : Value → Shared → Prop} {s : Shared}
end

section
variable {X : Cx}
end
end L2

namespace L2
open PySem PySem.Spec PyProof.Rows

/-! ### lists of pairs as tables -/
section
variable {κ : Type} [DecidableEq κ]
def valV (kvs : List (κ × V)) (k : κ) : Option V := (kvs.find? fun kv => decide (kv.1 = k)).map (·.2)
/-- in its place, or at the end -/
def putK (kvs : List (κ × V)) (k : κ) (v : V) : List (κ × V) :=
  if (kvs.any fun kv => decide (kv.1 = k)) = true then kvs.map (fun kv => if kv.1 = k then (kv.1, v) else kv) else kvs ++ [(k, v)]
theorem valV_pos {p : κ × V} {r : List (κ × V)} {k : κ} (e : p.1 = k) : valV (p :: r) k = some p.2 := by simp [valV, List.find?_cons, e]
theorem valV_neg {p : κ × V} {r : List (κ × V)} {k : κ} (e : ¬ p.1 = k) : valV (p :: r) k = valV r k := by simp [valV, List.find?_cons, e]
theorem valV_any (k : κ) : ∀ kvs : List (κ × V), (kvs.any fun kv => decide (kv.1 = k)) = (valV kvs k).isSome
  | [] => rfl
  | p :: r => by
    rw [List.any_cons]
    by_cases e : p.1 = k
    · simp only [valV_pos e, decide_eq_true e, Bool.true_or, Option.isSome_some]
    · rw [valV_neg e, decide_eq_false e, Bool.false_or]; exact valV_any k r
theorem length_putK (kvs : List (κ × V)) (k : κ) (v : V) : (putK kvs k v).length ≤ kvs.length + 1 := by
  unfold putK
  split
  · rw [List.length_map]; omega
  · rw [List.length_append, List.length_cons, List.length_nil]; omega
theorem putK_new {kvs : List (κ × V)} {k : κ} (v : V) (h : valV kvs k = none) : putK kvs k v = kvs ++ [(k, v)] := by
  unfold putK
  rw [valV_any, h]
  exact if_neg (by decide)

theorem RelO.isSome_eq {o : Option V} {u : Option Value} (r : RelO o u) : o.isSome = u.isSome := by
  cases o with
  | none => cases u with
    | none => rfl
    | some _ => exact (show False from r).elim
  | some _ => cases u with
    | none => exact (show False from r).elim
    | some _ => rfl
/-- raw tables of the same keys -/
theorem KV.val {kvs : List (κ × V)} {vs : List (κ × Value)} (r : KV kvs vs) (k : κ) : RelO (valV kvs k) (valueAt vs k) := by
  unfold KV at r
  induction r with
  | nil => exact True.intro
  | @cons p q ps qs h t ih =>
    obtain ⟨h1, h2⟩ := h
    by_cases e : p.1 = k
    · have e' : q.1 = k := h1.symm.trans e
      have b : valueAt (q :: qs) k = some q.2 := by simp [valueAt, List.find?_cons, e']
      rw [valV_pos e, b]; exact h2
    · have e' : ¬ q.1 = k := fun z => e (h1.trans z)
      have b : valueAt (q :: qs) k = valueAt qs k := by simp [valueAt, List.find?_cons, e']
      rw [valV_neg e, b]; exact ih
theorem KV.any {kvs : List (κ × V)} {vs : List (κ × Value)} (r : KV kvs vs) (k : κ) : (kvs.any fun kv => decide (kv.1 = k)) = vs.any fun kv => decide (kv.1 = k) := by
  unfold KV at r
  induction r with
  | nil => rfl
  | cons h t ih => rw [List.any_cons, List.any_cons, ih, h.1]
theorem KV.repl {kvs : List (κ × V)} {vs : List (κ × Value)} (r : KV kvs vs) (k : κ) {y : V} {u : Value} (ry : RelV y u) :
    KV (kvs.map fun kv => if kv.1 = k then (kv.1, y) else kv) (vs.map fun kv => if kv.1 = k then (kv.1, u) else kv) := by
  unfold KV at r ⊢
  induction r with
  | nil => exact .nil
  | @cons p q ps qs h t ih =>
    rw [List.map_cons, List.map_cons]
    refine .cons ?_ ih
    obtain ⟨h1, h2⟩ := h
    by_cases e : p.1 = k
    · rw [if_pos e, if_pos (h1.symm.trans e)]; exact ⟨h1, ry⟩
    · rw [if_neg e, if_neg (fun z => e (h1.trans z))]; exact ⟨h1, h2⟩
theorem KV.put {kvs : List (κ × V)} {vs : List (κ × Value)} (r : KV kvs vs) (k : κ) {y : V} {u : Value} (ry : RelV y u) : KV (putK kvs k y) (stored vs k u) := by
  unfold putK stored
  rw [r.any k]
  by_cases e : (vs.any fun kv => decide (kv.1 = k)) = true
  · rw [if_pos e, if_pos e]; exact r.repl k ry
  · rw [if_neg e, if_neg e]; exact Paired.snoc r ⟨rfl, ry⟩
theorem KV.length {kvs : List (κ × V)} {vs : List (κ × Value)} (r : KV kvs vs) : kvs.length = vs.length := Paired.length r
end


/-! ### a tracked dict, its keys ints and texts or tuples of these -/
theorem kV_is {P : Program} {w : World} {k : Key} {u : Value} (r : RelV (kV k) u) : (mixKind P w).is k u = true := by
  cases k with
  | inl i => obtain ⟨t, e⟩ := (show ∃ t, u = Value.int i t from r); subst e; exact mixKind_int P w i t
  | inr x => obtain ⟨t, e⟩ := (show ∃ t, u = Value.str x t from r); subst e; exact mixKind_str P w x t
theorem items_are {P : Program} {w : World} : ∀ {ks : List Key} {us : List Value}, Vals (ks.map kV) us → ItemsAre (mixKind P w) ks us
  | [], _, r => by rw [List.map_nil] at r; cases r; exact .nil
  | k :: ks, _, r => by
    rw [List.map_cons] at r
    cases r with
    | cons h t => exact .cons (kV_is h) (items_are t)

/-- raw entries of a dict with tuple keys -/
abbrev KT (H : Hp) : List (List Key × V) → List (List Key × Addr × Value) → Prop := Paired fun p q => p.1 = q.1 ∧ H q.2.1 = some (.tup (p.1.map kV)) ∧ RelV p.2 q.2.2
theorem KT.val {H : Hp} {kvs : List (List Key × V)} {xs : List (List Key × Addr × Value)} (r : KT H kvs xs) (k : List Key) : RelO (valV kvs k) ((atKey xs k).map (·.2)) := by
  induction r with
  | nil => exact True.intro
  | @cons p q ps qs h t ih =>
    obtain ⟨h1, _, h2⟩ := h
    by_cases e : p.1 = k
    · have e' : q.1 = k := h1.symm.trans e
      have b : atKey (q :: qs) k = some q.2 := by simp [atKey, List.find?_cons, e']
      rw [valV_pos e, b]; exact h2
    · have e' : ¬ q.1 = k := fun z => e (h1.trans z)
      have b : atKey (q :: qs) k = atKey qs k := by simp [atKey, List.find?_cons, e']
      rw [valV_neg e, b]; exact ih
theorem KT.repl {H : Hp} {kvs : List (List Key × V)} {xs : List (List Key × Addr × Value)} (r : KT H kvs xs) (k : List Key) {y : V} {u : Value} (ry : RelV y u) :
    KT H (kvs.map fun kv => if kv.1 = k then (kv.1, y) else kv) (xs.map (putAt k u)) := by
  induction r with
  | nil => exact .nil
  | @cons p q ps qs h t ih =>
    rw [List.map_cons, List.map_cons]
    refine .cons ?_ ih
    obtain ⟨h1, h2, h3⟩ := h
    unfold putAt
    by_cases e : p.1 = k
    · rw [if_pos e, if_pos (h1.symm.trans e)]; exact ⟨h1, h2, ry⟩
    · rw [if_neg e, if_neg (fun z => e (h1.trans z))]; exact ⟨h1, h2, h3⟩
theorem KT.put {H : Hp} {kvs : List (List Key × V)} {xs : List (List Key × Addr × Value)} (r : KT H kvs xs) (k : List Key) {b : Addr} {y : V} {u : Value} (hb : H b = some (.tup (k.map kV))) (ry : RelV y u) :
    KT H (putK kvs k y) (storedH xs k b u) := by
  have e : (kvs.any fun kv => decide (kv.1 = k)) = (atKey xs k).isSome := by
    rw [valV_any, (r.val k).isSome_eq, Option.isSome_map]
  unfold putK storedH
  rw [e]
  by_cases q : (atKey xs k).isSome = true
  · rw [if_pos q, if_pos q]; exact r.repl k ry
  · rw [if_neg q, if_neg q]; exact Paired.snoc r ⟨rfl, hb, ry⟩
theorem KT.keeps {H H' : Hp} {kvs : List (List Key × V)} {xs : List (List Key × Addr × Value)} (r : KT H kvs xs) (ht : ∀ b ys, H b = some (.tup ys) → H' b = some (.tup ys)) : KT H' kvs xs :=
  Paired.mapP r fun _ _ z => ⟨z.1, ht _ _ z.2.1, z.2.2⟩

section
variable {P : Program} {w : World} {H : Hp} {h : Heap} {a : Addr}
theorem rd_of {u : HO} (ok : HOk P w H h) (e : Rd H a u) : ObjOk P w H h a u := e.ok ok
theorem dk_rd {kvs : List (Key × V)} (ok : HOk P w H h) (e : Rd H a (.dK kvs)) : kvs.length ≤ sizeLine ∧ (a == sysModules) = false ∧ ∃ vs, KV kvs vs ∧ h.DictOf (mixKind P w) a vs :=
  show ObjOk P w H h a (.dK kvs) from rd_of ok e
theorem dk_of {kvs : List (Key × V)} (ok : HOk P w H h) (e : H a = some (.dK kvs)) : kvs.length ≤ sizeLine ∧ (a == sysModules) = false ∧ ∃ vs, KV kvs vs ∧ h.DictOf (mixKind P w) a vs := dk_rd ok (.inl e)
/-- a tracked tuple of ints and texts is a key -/
theorem key_of {ks : List Key} (ok : HOk P w H h) (e : H a = some (.tup (ks.map kV))) : (tupleKind (mixKind P w)).is h ks a := by
  obtain ⟨_, its, r, o, h1, h2, n, h3⟩ := (show ObjOk P w H h a (.tup (ks.map kV)) from ok a _ e)
  exact ⟨o, its.toArray, n, h1, h2, h3, by simpa using items_are r⟩
theorem dt_rd {kvs : List (List Key × V)} (ok : HOk P w H h) (e : Rd H a (.dT kvs)) : kvs.length ≤ sizeLine ∧ (a == sysModules) = false ∧
    ∃ xs, KT H kvs xs ∧ h.DictOfH (tupleKind (mixKind P w)) a xs := by
  obtain ⟨z, y, xs, r, o, es, ep, h1, h2, h3, h4, h5⟩ := (show ObjOk P w H h a (.dT kvs) from rd_of ok e)
  refine ⟨z, y, xs, r, o, es, ep, h1, h2, h3, h4, fun x hx => ?_, h5⟩
  have all : ∀ {l : List (List Key × V)} {m : List (List Key × Addr × Value)}, KT H l m → ∀ x ∈ m, (tupleKind (mixKind P w)).is h x.1 x.2.1 := by
    intro l m q
    induction q with
    | nil => intro x hx; exact nomatch hx
    | @cons p q ps qs hq t ih =>
      intro x hx
      rcases List.mem_cons.mp hx with e | hx
      · subst e
        exact key_of ok (by rw [← hq.1]; exact hq.2.1)
      · exact ih x hx
  exact all r x hx
theorem dt_of {kvs : List (List Key × V)} (ok : HOk P w H h) (e : H a = some (.dT kvs)) : kvs.length ≤ sizeLine ∧ (a == sysModules) = false ∧
    ∃ xs, KT H kvs xs ∧ h.DictOfH (tupleKind (mixKind P w)) a xs := dt_rd ok (.inl e)
end

/-- what the dict at a holds at the key y -/
def DGet (H : Hp) (a : Addr) (y : V) (r : Option V) : Prop :=
  (∃ kvs k, Rd H a (.dK kvs) ∧ y = kV k ∧ r = valV kvs k) ∨ ∃ kvs k b, Rd H a (.dT kvs) ∧ y = .ref b ∧ H b = some (.tup (k.map kV)) ∧ r = valV kvs k
/-- the heap behind a[y] = v -/
def DPut (H : Hp) (a : Addr) (y v : V) (H' : Hp) : Prop :=
  (∃ kvs k, H a = some (.dK kvs) ∧ y = kV k ∧ kvs.length < sizeLine ∧ H' = upd H a (.dK (putK kvs k v))) ∨
  ∃ kvs k b, H a = some (.dT kvs) ∧ y = .ref b ∧ H b = some (.tup (k.map kV)) ∧ kvs.length < sizeLine ∧ H' = upd H a (.dT (putK kvs k v))
theorem DGet.k {H : Hp} {a : Addr} {kvs : List (Key × V)} {k : Key} (e : H a = some (.dK kvs)) : DGet H a (kV k) (valV kvs k) := .inl ⟨kvs, k, .inl e, rfl, rfl⟩
theorem DPut.k {H : Hp} {a : Addr} {kvs : List (Key × V)} {k : Key} {v : V} (e : H a = some (.dK kvs)) (hl : kvs.length < sizeLine) : DPut H a (kV k) v (upd H a (.dK (putK kvs k v))) := .inl ⟨kvs, k, e, rfl, hl, rfl⟩
section
variable {X : Cx} {pins : List (Addr × Obj)} {σ : St} {H : Hp} {s : Shared} {a : Addr} {y v : V} {u r : Value} {o : Option V} {A : Around} {E : Value → Shared → Prop}

theorem Inv.big (I : Inv X pins σ H s) : sysModules < s.heap.objs.size := by
  have h : mainGlobals < s.heap.objs.size := (I.mod.glob.keeps I.bk).lt
  exact Nat.lt_trans (by decide) h

/-- d[y], there -/
theorem d_getItem {Q : Value → Shared → Prop} (hu : A.units + 1 < cLine) (I : Inv X pins σ H s) (g : DGet H a y (some v)) (ry : RelV y u) (h : ∀ w' s', Inv X pins σ H s' → RelV v w' → Q w' s') :
    wpAny (model X.prog X.w) A (getItem (.ref a) u) Q E s := by
  rcases g with ⟨kvs, k, e, ey, l⟩ | ⟨kvs, k, b, e, ey, eb, l⟩
  · subst ey
    obtain ⟨z, hd, vs, rel, dd⟩ := dk_rd I.hok e
    obtain ⟨w', hw, rw'⟩ := RelO.some_of (v := v) (o := valueAt vs k) (by rw [l]; exact rel.val k)
    exact wpAny_getItem_of (kV_is ry) dd.mapOf hw (h w' _ (I.tok _) rw')
  · subst ey
    cases (show u = Value.ref b from ry)
    obtain ⟨z, hd, xs, rel, dd⟩ := dt_rd I.hok e
    obtain ⟨w', hw, rw'⟩ := RelO.some_of (v := v) (o := (atKey xs k).map (·.2)) (by rw [l]; exact rel.val k)
    obtain ⟨p, hp, hp2⟩ := Option.map_eq_some_iff.mp hw
    refine wpAny_getItem_heap (tupleKind_room_in1 hu) (key_of I.hok eb) dd hp ?_
    rw [hp2]
    exact h w' _ (I.tok _) rw'
/-- y in d -/
theorem d_in {Q : Value → Shared → Prop} (hu : A.units + 1 < cLine) (I : Inv X pins σ H s) (g : DGet H a y o) (ry : RelV y u) (h : ∀ s', Inv X pins σ H s' → Q (.bool o.isSome) s') :
    wpAny (model X.prog X.w) A (compareOp .In u (.ref a)) Q E s := by
  rcases g with ⟨kvs, k, e, ey, l⟩ | ⟨kvs, k, b, e, ey, eb, l⟩
  · subst ey
    obtain ⟨z, hd, vs, rel, dd⟩ := dk_rd I.hok e
    refine wpAny_in_of (kV_is ry) hd dd.mapOf ?_
    rw [← (rel.val k).isSome_eq, ← l]
    exact h _ (I.tok _)
  · subst ey
    cases (show u = Value.ref b from ry)
    obtain ⟨z, hd, xs, rel, dd⟩ := dt_rd I.hok e
    refine wpAny_in_heap (tupleKind_room_in1 hu) (key_of I.hok eb) hd dd ?_
    have q := (rel.val k).isSome_eq
    rw [Option.isSome_map] at q
    rw [← q, ← l]
    exact h _ (I.tok _)
theorem d_notIn {Q : Value → Shared → Prop} (hu : A.units + 1 < cLine) (I : Inv X pins σ H s) (g : DGet H a y o) (ry : RelV y u) (h : ∀ s', Inv X pins σ H s' → Q (.bool (!o.isSome)) s') :
    wpAny (model X.prog X.w) A (compareOp .NotIn u (.ref a)) Q E s := by
  rcases g with ⟨kvs, k, e, ey, l⟩ | ⟨kvs, k, b, e, ey, eb, l⟩
  · subst ey
    obtain ⟨z, hd, vs, rel, dd⟩ := dk_rd I.hok e
    refine wpAny_notIn_of (kV_is ry) hd dd.mapOf ?_
    rw [← (rel.val k).isSome_eq, ← l]
    exact h _ (I.tok _)
  · subst ey
    cases (show u = Value.ref b from ry)
    obtain ⟨z, hd, xs, rel, dd⟩ := dt_rd I.hok e
    refine wpAny_notIn_heap (tupleKind_room_in1 hu) (key_of I.hok eb) hd dd ?_
    have q := (rel.val k).isSome_eq
    rw [Option.isSome_map] at q
    rw [← q, ← l]
    exact h _ (I.tok _)
/-- a dict's object is replaced -/
theorem d_write {h' : Heap} {t' : Nat} {ob : HO} (I : Inv X pins σ H s) (mu : Mut (H a)) (hs : Heap.SameBut a s.heap h') (he : ∃ q, h'.get? a = some q) (new : ObjOk X.prog X.w (upd H a ob) h' a ob) :
    Inv X pins σ (upd H a ob) { s with heap := h', toks := t' } :=
  I.write (x := a) (e := a) mu (.inl rfl) (fun b q hb z => (hs.2 b hb).trans z) he new
theorem dk_new {P : Program} {w : World} {H' : Hp} {h' : Heap} {kvs : List (Key × V)} {vs : List (Key × Value)} (z : kvs.length ≤ sizeLine) (hd : (a == sysModules) = false) (rel : KV kvs vs) (dd : h'.DictOf (mixKind P w) a vs) :
    ObjOk P w H' h' a (.dK kvs) := ⟨z, hd, vs, rel, dd⟩
/-- d[y] = v -/
theorem d_setItem {H' : Hp} {Q : Unit → Shared → Prop} (hu : A.units + 1 < cLine) (I : Inv X pins σ H s) (g : DPut H a y v H') (ry : RelV y u) (rv : RelV v r) (h : ∀ s', Inv X pins σ H' s' → Q () s') :
    wpAny (model X.prog X.w) A (setItem (.ref a) u r) Q E s := by
  rcases g with ⟨kvs, k, e, ey, l, eH⟩ | ⟨kvs, k, b, e, ey, eb, l, eH⟩
  · subst ey eH
    obtain ⟨z, hd, vs, rel, dd⟩ := dk_of I.hok e
    have hz : vs.length ≤ sizeLine := by rw [← rel.length]; exact z
    have hl : (putK kvs k v).length ≤ sizeLine := by have := length_putK kvs k v; omega
    refine wpAny_setItem_pairs (hsz := hz) (kV_is ry) dd fun h' dd' hs => h _ ?_
    have he : ∃ q, h'.get? a = some q := let ⟨q, _, _, hq, _⟩ := dd'; ⟨q, hq⟩
    exact d_write I (by rw [e]; exact True.intro) hs he (dk_new hl hd (rel.put k rv) dd')
  · subst ey eH
    cases (show u = Value.ref b from ry)
    obtain ⟨z, hd, xs, rel, dd⟩ := dt_of I.hok e
    have hz : xs.length ≤ sizeLine := by rw [← Paired.length rel]; exact z
    have hl : (putK kvs k v).length ≤ sizeLine := by have := length_putK kvs k v; omega
    refine wpAny_setItem_heap (hsz := hz) (tupleKind_room_in1 hu) (key_of I.hok eb) dd fun h' dd' hs => h _ ?_
    obtain ⟨q, es, ep, hq, h2, h3, h4, _, h5⟩ := dd'
    refine d_write I (by rw [e]; exact True.intro) hs ⟨q, hq⟩ ⟨hl, hd, _, (rel.put k eb rv).keeps fun c ys ec => ?_, q, es, ep, hq, h2, h3, h4, h5⟩
    rw [upd_ne (ne_of ec e (fun z => nomatch z))]
    exact ec
end

section
variable {X : Cx} {pins : List (Addr × Obj)} {σ : St} {H : Hp} {s : Shared} {a : Addr} {kvs : List (Key × V)} {k : Key} {u : Value} {A : Around} {E : Value → Shared → Prop}
/-- len(d) -/
theorem d_len {Q : Value → Shared → Prop} (I : Inv X pins σ H s) (e : Rd H a (.dK kvs)) (h : ∀ t s', Inv X pins σ H s' → Q (.int kvs.length t) s') : wpAny (model X.prog X.w) A (call (.builtin "len") [.ref a]) Q E s := by
  obtain ⟨z, hd, vs, rel, dd⟩ := dk_rd I.hok e
  refine call_len_dict hd dd (by rw [← rel.length]; rw [sizeLine_eq] at z; omega) ?_
  rw [← rel.length]
  exact h _ _ (I.tok _)
end


/-! ### readings and rules -/
/-- the element of a subscription, not a slice -/
def NoSl (i : Expr) : Prop := ∀ ov iv, subscripted i false ov iv = operate [ov, iv] (getItem ov iv)
theorem subD_of {prog : Program} {w : World} {A : Around} {E : Value → Shared → Prop} {s : Shared} {env : Env} {value slice : Expr} {pos : Pos} {T id : String} {Q : Value → Shared → Prop}
    (hl : typeLookup (.type T) "__getitem__" = pure (some (.builtin id))) (hs : NoSl slice)
    (h : wpAny (model prog w) A (eval value env) (fun o s₁ => wpAny (model prog w) A (eval slice env) (fun i s₂ => s₂.TypeIs o T ∧ wpAny (model prog w) A (getItem o i) Q E s₂) E s₁) E s) :
    wpAny (model prog w) A (eval (.Subscript value slice pos) env) Q E s := by
  refine Subscript_ (wpAny_mono h (fun o s₁ h₁ => wpAny_mono h₁ (fun i s₂ h₂ => ?_) fun _ _ x => x) fun _ _ x => x)
  obtain ⟨hT, h₂⟩ := h₂
  unfold subscriptTail
  refine wpAny_bind ?_
  rw [getitemInPython_of_ne hT.not_modules]
  refine wpAny_bind (wpAny_specialOf hT hl ?_)
  have fin : wpAny (model prog w) A (subscripted slice false o i) (fun r s₃ => wpAny (model prog w) A (letTemporaryGo value o r >>= fun _ => pure r) Q E s₃) E s₂ := by
    rw [hs o i]
    exact wpAny_operating (wpAny_mono h₂ (fun r s₃ h₃ => wpAny_bind (wpAny_letTemporaryGo (wpAny_pure h₃))) fun _ _ x => x)
  first
    | exact wpAny_pure (wpAny_bind fin)
    | exact wpAny_bind (wpAny_pure (wpAny_bind fin))
    | exact wpAny_bind fin

theorem dict_typeIs {X : Cx} {pins : List (Addr × Obj)} {σ : St} {H : Hp} {s : Shared} {a : Addr} {y : V} {o : Option V} (I : Inv X pins σ H s) (g : DGet H a y o) : s.TypeIs (.ref a) "dict" := by
  rcases g with ⟨kvs, k, e, _, _⟩ | ⟨kvs, k, b, e, _, _, _⟩
  · obtain ⟨_, _, vs, _, dd⟩ := dk_rd I.hok e
    exact dd.typeIs
  · obtain ⟨_, _, xs, _, dd⟩ := dt_rd I.hok e
    exact dd.typeIs
/-- d[y] -/
def tDGet (td ty : TE) : TE := fun σ H Q => td σ H fun x H1 => ty σ H1 fun y H2 => ∃ a v, x = .ref a ∧ DGet H2 a y (some v) ∧ Q v H2
/-- y in d, y not in d -/
def tDIn (ty td : TE) : TE := fun σ H Q => ty σ H fun y H1 => td σ H1 fun x H2 => ∃ a o, x = .ref a ∧ DGet H2 a y o ∧ Q (.bl o.isSome) H2
def tDNotIn (ty td : TE) : TE := fun σ H Q => ty σ H fun y H1 => td σ H1 fun x H2 => ∃ a o, x = .ref a ∧ DGet H2 a y o ∧ Q (.bl (!o.isSome)) H2
/-- d[y] = v -/
def sDPut (td ty tv : TE) : TS := fun D σ H => tv σ H fun v H1 => td σ H1 fun x H2 => ty σ H2 fun y H3 => ∃ a H4, x = .ref a ∧ DPut H3 a y v H4 ∧ D.nx σ H4
section
variable {X : Cx} {o i e value : Expr} {pos pos' tpos : Pos} {td ty tv : TE}
theorem pe_dget (hu : X.A.units + 1 < cLine) (ho : PE X o td) (hi : PE X i ty) (hs : NoSl i) : PE X (.Subscript o i pos) (tDGet td ty) := by
  intro pins s σ H Q I h
  refine subD_of PySem.F.slot_dict_getitem.lookup hs (thn (ho pins s σ H _ I h) fun u s1 ⟨x, H1, I1, rx, q1⟩ => thn (hi pins s1 σ H1 _ I1 q1) fun iv s2 ⟨y, H2, I2, ry, a, v, ex, g, q2⟩ => ?_)
  subst ex
  obtain rfl : u = Value.ref a := rx
  exact ⟨dict_typeIs I2 g, d_getItem hu I2 g ry fun w' s3 I3 rw' => ⟨v, H2, I3, rw', q2⟩⟩
theorem pc_din (hu : X.A.units + 1 < cLine) (hi : PE X i ty) (ho : PE X o td) : PC X .In i o (tDIn ty td) := by
  intro pins s σ H Q I h
  refine thn (hi pins s σ H _ I h) fun iv s1 ⟨y, H1, I1, ry, q1⟩ => thn (ho pins s1 σ H1 _ I1 q1) fun u s2 ⟨x, H2, I2, rx, a, ov, ex, g, q2⟩ => ?_
  subst ex
  obtain rfl : u = Value.ref a := rx
  exact d_in hu I2 g ry fun s3 I3 => ⟨.bl ov.isSome, H2, I3, rfl, q2⟩
theorem pc_dnotin (hu : X.A.units + 1 < cLine) (hi : PE X i ty) (ho : PE X o td) : PC X .NotIn i o (tDNotIn ty td) := by
  intro pins s σ H Q I h
  refine thn (hi pins s σ H _ I h) fun iv s1 ⟨y, H1, I1, ry, q1⟩ => thn (ho pins s1 σ H1 _ I1 q1) fun u s2 ⟨x, H2, I2, rx, a, ov, ex, g, q2⟩ => ?_
  subst ex
  obtain rfl : u = Value.ref a := rx
  exact d_notIn hu I2 g ry fun s3 I3 => ⟨.bl (!ov.isSome), H2, I3, rfl, q2⟩
theorem ps_dput (hu : X.A.units + 1 < cLine) (ho : PE X o td) (hi : PE X i ty) (hv : PE X value tv) (hs : swapsWith value (some (.Subscript o i pos')) pos.line X.env = pure false) :
    PS X (.Assign [.Subscript o i pos'] value pos) (sDPut td ty tv) := by
  intro pins s σ H D I h
  refine wpAny_Assign_Subscript (thn (hv pins s σ H _ I h) fun r s1 ⟨v, H1, I1, rv, q1⟩ => thn (ho pins s1 σ H1 _ I1 q1) fun u s2 ⟨x, H2, I2, rx, q2⟩ => thn (hi pins s2 σ H2 _ I2 q2) fun iv s3 ⟨y, H3, I3, ry, a, H4, ex, g, q3⟩ => ?_) hs
  subst ex
  obtain rfl : u = Value.ref a := rx
  exact d_setItem hu I3 g ry rv fun s4 I4 => ⟨σ, H4, I4, q3⟩
end


/-! ### displays -/
theorem dk_empty {P : Program} {w : World} {H : Hp} (h : Heap) (hb : sysModules < h.objs.size) : ObjOk P w H (h.push { cls := .type "dict", data := .dict #[] }) h.objs.size (.dK []) :=
  ⟨Nat.zero_le _, beq_eq_false_iff_ne.mpr (Ne.symm (Nat.ne_of_lt hb)), [], .nil, Heap.DictOf.new h⟩
/-- {}, to be a dict of the kind that is wanted -/
def tDNewK : TE := fun _ H Q => ∀ p, H p = none → Q (.ref p) (upd H p (.dK []))
section
variable {X : Cx} {pos : Pos}
theorem pe_dnewK : PE X (.Dict [] [] pos) tDNewK := fun pins s σ H Q I h =>
  wpAny_Dict_empty ⟨.ref s.heap.objs.size, _, I.laid (a := s.heap.objs.size) (o := .dK []) (t' := s.toks) (fun _ _ q => Heap.get?_push_of_some _ q) (Nat.le_refl _) (dk_empty s.heap I.big), rfl, h _ (I.hok.fresh (Nat.le_refl _))⟩
end

/-! ### methods -/
section
variable {X : Cx} {pins : List (Addr × Obj)} {σ : St} {H : Hp} {s : Shared} {a : Addr} {y d : V} {u r : Value} {o : Option V} {A : Around} {E : Value → Shared → Prop}
end

section
variable {X : Cx} {o e f : Expr} {apos cpos : Pos} {td ty tx : TE}
end

/-! ### dict(d): a copy -/
section
variable {X : Cx} {pins : List (Addr × Obj)} {σ : St} {H : Hp} {s : Shared} {a : Addr} {kvs : List (Key × V)} {A : Around} {E : Value → Shared → Prop}
theorem d_copyOf {Q : Value → Shared → Prop} (I : Inv X pins σ H s) (e : Rd H a (.dK kvs)) (h : ∀ p s', H p = none → Inv X pins σ (upd H p (.dK kvs)) s' → Q (.ref p) s') : wpAny (model X.prog X.w) A (call (.type "dict") [.ref a]) Q E s := by
  obtain ⟨z, hd, vs, rel, dd⟩ := dk_rd I.hok e
  refine kt_call_dict hd dd (by rw [← rel.length]; exact z) fun h' dd' hs => ?_
  refine h _ _ (I.hok.fresh (Nat.le_refl _)) (I.laid (a := s.heap.objs.size) (o := .dK kvs) (t' := s.toks) (fun b q hq => ?_) (Nat.le_refl _) (dk_new z (beq_eq_false_iff_ne.mpr (Ne.symm (Nat.ne_of_lt I.big))) rel dd'))
  exact (hs.2 b (Nat.ne_of_lt (Heap.lt_size hq))).trans (Heap.get?_push_of_some _ hq)
end


section
variable {X : Cx} {pins : List (Addr × Obj)} {σ : St} {H : Hp} {s : Shared} {a : Addr} {y : V} {u : Value} {A : Around} {E : Value → Shared → Prop}
end
end L2

namespace Att
open PySem PySem.W PySem.Calls PyProof.Rows

/-! ### the script -/
theorem ints_of_wellAll {P : Params} {h : Heap} : ∀ (ns : List Int) (vs : List Value), WellAll P h vs (ns.map WData.int) → IntsAre vs ns := by
  intro ns
  induction ns with
  | nil =>
    intro vs w
    rw [List.map_nil] at w
    cases w
    exact .nil
  | cons n ns ih =>
    intro vs w
    rw [List.map_cons] at w
    cases w with
    | cons a b =>
      cases a
      exact .cons _ _ (ih _ b)

theorem script_of {l : OpenLaw} {n : Nat} (hn : l.most = some n) {P : Params} {h : Heap} {args : List WData} {vals : List Value}
    (hpre : l.row.toRowW.claim.pre args = true) (hwl : WellAll P h vals args) :
    ∃ a vs ns, vals = [Value.ref a] ∧ args = [WData.list (ns.map WData.int)] ∧ h.get? a = some { cls := .type "list", data := .seq vs.toArray } ∧ IntsAre vs ns ∧ ns.length ≤ n := by
  have hsh : WShape.hasAll [] args [.list .int] = true := (pre_splitW hpre).1
  have hc : l.pre.holds [] { args := args } = true := (pre_splitW hpre).2
  obtain ⟨d, r, rfl, h1, h2⟩ := hasAllW_cons hsh
  obtain rfl := hasAllW_nil h2
  obtain ⟨xs, rfl, h3⟩ := hasW_list h1
  obtain ⟨ns, rfl⟩ := items_int h3
  have hlen : ns.length ≤ n := by
    unfold OpenLaw.pre at hc
    have h4 : (WTm.not (.lt (.lit (.int (n : Int))) (.len (.arg 0)))).holds [] { args := [.list (ns.map .int)] } = true := by
      have h4 := (holds_andW hc).1
      rw [hn] at h4
      exact h4
    have h5 := condW_of h4 (w_not (w_lt w_lit (w_len_list (w_arg rfl))))
    rw [List.length_map] at h5
    refine Nat.le_of_not_lt fun q => ?_
    have q' : (n : Int) < ((ns.length : Nat) : Int) := by omega
    first
      | (rw [decide_eq_true q'] at h5; exact absurd h5 (by decide))
      | (simp at h5; omega)
  cases hwl with
  | cons w1 w2 =>
    cases w2
    cases w1 with
    | list ho hall => exact ⟨_, _, ns, rfl, rfl, ho, ints_of_wellAll ns _ hall, hlen⟩

theorem post_true (l : OpenLaw) (args : List WData) : l.row.toRowW.claim.post args (.bool true) args = true :=
  postW_of (r := l.row.toRowW) (X := (true == true))
    (show WShape.has [] (.bool true) .bool = true by first | rfl | decide | simp [WShape.has, WShape.arms, WShape.armsAll])
    (show (WTm.eq .res (.lit (.bool true))).value [] { args := args, res := some (.bool true), after := args } = some (.bool (true == true)) from w_eq_bool (w_res rfl) w_lit) rfl

/-! ### the attachment: holds_open's last premise (the goal 'hc' behind k_head) from a wpAny of the law's body -/
/-! ### rules over ANY heap (no ledger) from facts about the written part K: the library's own take a ledger (News) for what they write -/
section
variable {prog : Program} {w : World} {A : Around} {E : Value → Shared → Prop} {s : Shared} {K : Frag}

/-! the whole heap as the ledger: makes every rule that writes through a ledger a rule over any heap -/
def ledger (h : Heap) (L d : Addr) : List (Addr × Obj) := (List.range h.objs.size).filterMap fun a => if a = L ∨ a = d then none else (h.get? a).map fun o => (a, o)
end
end Att

namespace L2
open PySem PySem.Spec PyProof.Rows

theorem vals_ints : ∀ {vs : List Value} {ns : List Int}, IntsAre vs ns → Vals (ns.map V.int) vs
  | _, _, .nil => .nil
  | _, _, .cons n t h => .cons ⟨t, rfl⟩ (vals_ints h)

/-- nothing is tracked but the script, known to the object (or it is an object of the module) -/
def Only (H : Hp) : Prop := ∀ b, H b = none ∨ ∃ o xs, H b = some (.frz o (.lst xs))

/-- THE HEAD: the law's promise, at the heap behind the top. F, the promise of the law's def, may use that base is part of the heap (so K.In base, base.Ns mainGlobals mg stand in Mod) -/
theorem law_call {P : Program} {w : World} {K : PySem.W.Frag} {mg mb : Str → Option Value} {CX : CXT} {k : Nat} {fa a : Addr} {fd : FuncData} {x : Str} {sp : Sp} {s₁ : Shared} {vs : List Value} {ns : List Int}
    (KX : K.In s₁.heap) (hns : s₁.heap.Ns mainGlobals mg) (hb : s₁.heap.Ns builtinsNs mb) (hbb : ∀ x : Str, x ≠ "__name__" → mb x = bootBuiltins x) (hlim : s₁.heap.NoLimit) (hg : s₁.gens = #[])
    (ha : s₁.heap.get? a = some { cls := .type "list", data := .seq vs.toArray }) (hi : IntsAre vs ns) (hl : ns.length ≤ sizeLine) (hr : Room k callerA)
    (F : ∀ base : Heap, K.In base → base.Ns mainGlobals mg → FnOk P w K mg base CX k fa fd [x] sp) (hbind : ∀ (s : Shared) (u : Value), BindsTo s fd ⟨[u], []⟩ [(x, u)])
    (hsp : ∀ H : Hp, Only H → SqL K H a (ns.map V.int) → sp [.ref a] H (fun v _ => v = .bl true) fun _ _ _ => False)
    (hCX : ∀ H e s', CX [] H s₁ (fun _ _ _ => False) e s' → False) :
    codeAny (model P w) callerA (.call (.ref fa) ⟨[.ref a], []⟩) (fun r s' => r = .ok (.ret (.bool true)) ∧ OldK s₁.heap s'.heap ∧ s'.os = s₁.os ∧ AllBare s'.gens) s₁ := by
  have rv := vals_ints hi
  have lenV := hi.length
  -- from an abstract heap in which nothing but the script may be tracked
  have core : ∀ H : Hp, Only H → SqL K H a (ns.map V.int) → HOk P w H s₁.heap → (∀ b, H b ≠ none → b = a) → (H a ≠ none → K.lookup a = none) →
      codeAny (model P w) callerA (.call (.ref fa) ⟨[.ref a], []⟩) (fun r s' => r = .ok (.ret (.bool true)) ∧ OldK s₁.heap s'.heap ∧ s'.os = s₁.os ∧ AllBare s'.gens) s₁ := by
    intro H hO hS hok hA hK
    have base_of : ∀ {b : Addr} {o : Obj}, s₁.heap.get? b = some o → H b = none → (hidT s₁.heap H).get? b = some o := fun e n => hidT_get e n
    have noA : ∀ {b : Addr} {o : Obj} {es : Array DictEntry} {ep : Nat}, s₁.heap.get? b = some o → o.data = .dict es ep → H b = none := fun {b o es ep} e d => by
      cases q : H b with
      | none => rfl
      | some u =>
        have e' : b = a := hA b (by rw [q]; simp)
        subst e'
        rw [ha] at e; cases e
        have d' : Data.seq vs.toArray _ = Data.dict es ep := d
        cases d'
    have nsK : ∀ {b : Addr} {m : Str → Option Value}, s₁.heap.Ns b m → (hidT s₁.heap H).Ns b m := fun {b m} ⟨o, es, ep, e, d, r⟩ => ⟨o, es, ep, base_of e (noA e d), d, r⟩
    have hKb : K.In (hidT s₁.heap H) := fun b o e => base_of (KX b o e) (by
      cases q : H b with
      | none => rfl
      | some u =>
        have e' : b = a := hA b (by rw [q]; simp)
        subst e'
        rw [hK (by rw [q]; simp)] at e; cases e)
    have hM : Mod K mg (hidT s₁.heap H) := ⟨hKb, nsK hns, ⟨mb, nsK hb, hbb⟩, let ⟨mc, h1, h2⟩ := hlim; ⟨mc, nsK h1, h2⟩⟩
    have e0 : Env0 P w K mg (hidT s₁.heap H) callerA [] s₁ H := ⟨rfl, hM, fun b o e => of_hidT e, Nat.le_of_eq (hidT_size _ _), trivial, fun b hb => absurd (show b ∈ ([] : List Addr) from hb) (by simp), hok, .of_eq hg⟩
    refine codeAny_mono ((F _ hKb (nsK hns)).run callerA [] s₁ H ⟨[.ref a], []⟩ [.ref a] [.ref a] _ _ hr e0 (hbind s₁ (.ref a)) (.cons rfl .nil) (hsp H hO hS)) fun r s' h => ?_
    cases r with
    | error e => exact (hCX H e s' h).elim
    | ok fl =>
      cases fl with
      | next => exact False.elim h
      | brk => exact False.elim h
      | cont => exact False.elim h
      | ret u =>
        obtain ⟨v, H', os, bare, un, hok', r', q⟩ := h
        have q' : v = .bl true := q
        subst q'
        obtain rfl : u = Value.bool true := r'
        refine ⟨rfl, OldK.of_keep fun b o e => ?_, os, bare⟩
        cases q : H b with
        | none => exact un.keep b o e q (by intro z; exact absurd (show b ∈ ([] : List Addr) from z) (by simp)) (by simp)
        | some u =>
          rcases hO b with z | ⟨ob, xs, z⟩
          · rw [q] at z; cases z
          · have z2 := un.frzs b ob _ z
            obtain ⟨e1, _⟩ := hok b _ z
            obtain ⟨e2, _⟩ := hok' b _ z2
            rw [e] at e1; cases e1
            exact e2
  cases hk : K.lookup a with
  | some o =>
    -- the script is one of the module's own objects
    have e := KX a o hk
    rw [ha] at e
    cases e
    refine core (fun _ => none) (fun _ => .inl rfl) (.inr ⟨_, vs.toArray, _, hk, rfl, rfl, rfl, by rw [List.size_toArray, lenV]; exact hl, by simpa using rv⟩) (fun b u z => by have z' : (none : Option HO) = some u := z; cases z') (fun b z => absurd rfl z) fun z => absurd rfl z
  | none =>
    refine core (fun b => if b = a then some (.frz { cls := .type "list", data := .seq vs.toArray } (.lst (ns.map V.int))) else none) (fun b => ?_) (.inl (.inr ⟨{ cls := .type "list", data := .seq vs.toArray }, if_pos rfl⟩)) (fun b u z => ?_) (fun b z => ?_) fun _ => hk
    · by_cases hb : b = a
      · exact .inr ⟨_, _, if_pos hb⟩
      · exact .inl (if_neg hb)
    · by_cases hb : b = a
      · have z' := (if_pos hb).symm.trans z
        cases z'
        subst hb
        exact ⟨ha, by rw [List.length_map]; exact hl, vs, _, rv, ha⟩
      · have z' := (if_neg hb).symm.trans z
        cases z'
    · by_cases hb : b = a
      · exact hb
      · exact absurd (if_neg hb) z
end L2

namespace L2
open PySem PySem.Spec PyProof.Rows

end L2

/- THE LAST THEOREM (shape; LID, My.* are yours):
   My.Adr: a structure of the addresses that your layer names (classes, functions); My.Txt K t: a structure (Prop) of the equations over K;
   My.txt_mk : {K} {implicit addresses ..} (e1 : nsIn K mainGlobals "law" = some (some (.ref f))) (e2 : K.lookup f = some ⟨oc, od, .func (fnOf "law" "law" params body scope dV kV doc pm an cdv ct), sl⟩) (e3 : codeIn K cdv "law" = true) .. : ∃ t, My.Txt K t

(the tactic k_is has no namespace: write k_is) -/

/-! SHORT WORDS over the layer: a def of the text, its body, what a loop and a test want. -/
namespace L2
open PySem PySem.Spec PyProof.Rows

/-! ### the text by places -/
/-- the j-th statement of a class's body -/
def inClass (s : Stmt) (j : Nat) : Stmt := match s with
  | .ClassDef _ _ _ body _ _ _ _ _ _ _ => body.getD j (.Pass ⟨0, 0, 0, 0⟩)
  | _ => .Pass ⟨0, 0, 0, 0⟩
def defArgs (s : Stmt) : Arguments := match s with
  | .FunctionDef _ a _ _ _ _ _ _ _ _ => a
  | _ => { posonlyargs := [], args := [], vararg := none, kwonlyargs := [], kw_defaults := [], kwarg := none, defaults := [] }
def defBody (s : Stmt) : List Stmt := match s with
  | .FunctionDef _ _ b _ _ _ _ _ _ _ => b
  | _ => []
def defScope (s : Stmt) : Scope := match s with
  | .FunctionDef _ _ _ _ _ _ sc _ _ _ => sc
  | _ => { kind := .function, names := [], isGenerator := false, isCoroutine := false }

/-! ### no exception leaves a def -/
abbrev CX0 : CXT := fun _ _ _ _ _ _ => False
abbrev E0 : XK := fun _ _ _ => False
theorem pass0 {X : Cx} : Passes CX0 X E0 := fun _ _ _ _ _ _ _ h => h.elim

/-! ### a def (or method) of the text as it stands behind the top -/
structure Fun (K : PySem.W.Frag) (x qual : Str) (st : Stmt) (f : Addr) (fd : FuncData) : Prop where
  ex : ∃ (oc : Value) (od : Option Addr) (kV doc pm : Value) (an : Option Addr) (cdv ct : Value) (osl : Array (Option Value)),
    fd = PySem.W.fnOf x qual (defArgs st) (defBody st) (defScope st) .none kV doc pm an cdv ct ∧ K.lookup f = some ⟨oc, od, .func fd, osl⟩ ∧ PySem.W.codeIn K cdv qual = true
  kp : PySem.W.keepIn K (.ref f) = true
section
variable {P : Program} {w : World} {K : PySem.W.Frag} {mg : Str → Option Value} {base : Heap}
/-- THE RULE for a def: its body as a term of rules, and the reading of that term -/
theorem Fun.ok {x qual : Str} {st : Stmt} {f : Addr} {fd : FuncData} {N ps : List Str} {k : Nat} {sp : Sp} (F : Fun K x qual st f fd) (S : FnScope N ps (defScope st)) (len : ∀ vs H Q E, sp vs H Q E → vs.length = ps.length)
    (hbody : ∀ (cdv : Value) (A : Around) (outer : List Env) (s : Shared) (H : Hp) (vs : List V) (Q : VK) (E : XK), Room k (A.deeper (envOfC qual (defScope st) s.heap.objs.size f cdv)) → sp vs H Q E →
      ∃ t, PSs (cxOf CX0 P w K mg base N qual (defScope st) f cdv A outer s H E).nox (defBody st) t ∧ t { nx := fun _ H' => Q .non H', rt := Q } (start N vs) H) : FnOk P w K mg base CX0 (k + 1) f fd ps sp := by
  obtain ⟨oc, od, kV, doc, pm, an, cdv, ct, osl, rfl, lk, hcd⟩ := F.ex
  refine fn_of lk hcd S len fun A outer s H vs Q E hr hsp => ?_
  obtain ⟨t, h, q⟩ := hbody cdv A outer s H vs Q E hr hsp
  exact ⟨t, h.nox, q⟩
/-- how its arguments bind (no defaults): h is «fun _ _ _ _ _ _ us hl => match us, hl with | [_, _], _ => rfl», one _ a parameter -/
theorem Fun.binds {x qual : Str} {st : Stmt} {f : Addr} {fd : FuncData} {ps : List Str} (F : Fun K x qual st f fd)
    (h : ∀ (kV doc pm : Value) (an : Option Addr) (cdv ct : Value) (us : List Value), us.length = ps.length → bindArgs (PySem.W.fnOf x qual (defArgs st) (defBody st) (defScope st) .none kV doc pm an cdv ct) ⟨us, []⟩ = pure (ps.zip us)) : Binds K fd ps [] := by
  obtain ⟨oc, od, kV, doc, pm, an, cdv, ct, osl, rfl, lk, hcd⟩ := F.ex
  exact .all (h kV doc pm an cdv ct)
theorem fun_mk {x qual : Str} {st : Stmt} {f : Addr} {oc : Value} {od an : Option Addr} {osl : Array (Option Value)} {kV doc pm cdv ct : Value} (l : K.lookup f = some ⟨oc, od, .func (PySem.W.fnOf x qual (defArgs st) (defBody st) (defScope st) .none kV doc pm an cdv ct), osl⟩)
    (c : PySem.W.codeIn K cdv qual = true) (k : PySem.W.keepIn K (.ref f) = true) : Fun K x qual st f (PySem.W.fnOf x qual (defArgs st) (defBody st) (defScope st) .none kV doc pm an cdv ct) := ⟨⟨oc, od, kV, doc, pm, an, cdv, ct, osl, rfl, l, c⟩, k⟩
end
theorem hu_of {A : Around} {k : Nat} (hr : Room k A) : A.units + 1 < cLine := Nat.lt_of_le_of_lt (Nat.add_le_add_left (by decide : 1 ≤ 64) _) hr.units
/-! ### expressions in short: the name that stands in the i-th slot -/
section
variable {X : Cx}
theorem pv (i : Nat) {x : Str} {pos : Pos} (hN : X.N[i]? = some x := by rfl) (hv : Vis X.env.scope x := by first | exact Or.inl rfl | exact Or.inr (Or.inl rfl) | exact Or.inr (Or.inr rfl)) (hd : (x == ("__debug__" : Str)) = false := by decide)
    (hcd : (x == ("__classdict__" : Str)) = false := by decide) : PE X (.Name x pos) (tVar i) := pe_var hN hv hd hcd
/-- len of a dict -/
theorem call_lenD : CallR X (.builtin "len") (fun xs H Q => ∃ a kvs, xs = [V.ref a] ∧ H a = some (.dK kvs) ∧ Q (.int kvs.length) H) := by
  intro pins s σ H xs us Q I r h
  obtain ⟨a, kvs, rfl, ha, q⟩ := h
  obtain ⟨u, rfl, ru⟩ := vals1 r
  cases ru
  exact d_len I (.inl ha) fun t s' I' => ⟨.int kvs.length, H, I', ⟨t, rfl⟩, q⟩
end

/-! ### tests -/
theorem iteF {A B : Prop} (h : B) : if false = true then A else B := by
  rw [if_neg Bool.false_ne_true]
  exact h
theorem iteT {A B : Prop} (h : A) : if true = true then A else B := by
  rw [if_pos rfl]
  exact h
theorem ite2 {c A B : Prop} [Decidable c] (h1 : c → A) (h2 : ¬ c → B) : if c then A else B := by
  by_cases h : c
  · rw [if_pos h]
    exact h1 h
  · rw [if_neg h]
    exact h2 h
/-! ### heaps -/
/-- all that was tracked is as it was -/
def Same (H H' : Hp) : Prop := ∀ b o, H b = some o → H' b = some o
theorem Same.refl (H : Hp) : Same H H := fun _ _ h => h
theorem Same.trans {H H1 H2 : Hp} (a : Same H H1) (b : Same H1 H2) : Same H H2 := fun c o h => b c o (a c o h)
theorem Same.free {H H' : Hp} (e : Same H H') {l : Addr} (h : H' l = Option.none) : H l = Option.none := by
  cases q : H l with
  | none => rfl
  | some o =>
    rw [e l o q] at h
    cases h
theorem Same.seq {K : PySem.W.Frag} {H H' : Hp} {a : Addr} {xs : List V} (e : Same H H') (h : SqL K H a xs) : SqL K H' a xs := by
  rcases h with (h | ⟨o, h⟩) | h
  · exact .inl (.inl (e _ _ h))
  · exact .inl (.inr ⟨o, e _ _ h⟩)
  · exact .inr h

/-! ### a dict's pairs: keys that differ -/
section
variable {κ : Type} [DecidableEq κ]
theorem nd_snoc : ∀ {l : List κ} {k : κ}, l.Nodup → ¬ k ∈ l → (l ++ [k]).Nodup
  | [], k, _, _ => by simp
  | a :: r, k, h, hk => by
    obtain ⟨h1, h2⟩ := List.nodup_cons.mp h
    show (a :: (r ++ [k])).Nodup
    refine List.nodup_cons.mpr ⟨fun m => ?_, nd_snoc h2 fun m => hk (List.mem_cons.mpr (Or.inr m))⟩
    rcases List.mem_append.mp m with q | q
    · exact h1 q
    · exact hk (List.mem_cons.mpr (Or.inl (List.mem_singleton.mp q).symm))
end
end L2

namespace L2
open PySem PySem.Spec PyProof.Rows

/-! ## A comprehension -/
theorem mem_of_lk {κ β : Type} [BEq κ] [LawfulBEq κ] {k : κ} {v : β} : ∀ {l : List (κ × β)}, l.lookup k = some v → (k, v) ∈ l
  | [], h => by simp at h
  | (a, b) :: r, h => by
    rw [List.lookup_cons] at h
    cases e : k == a with
    | true =>
      rw [e] at h
      simp at h
      rw [eq_of_beq e, h]
      exact List.mem_cons_self
    | false =>
      rw [e] at h
      exact List.mem_cons_of_mem _ (mem_of_lk h)
theorem lk_of_mem {κ β : Type} [BEq κ] [LawfulBEq κ] {k : κ} {v : β} : ∀ {l : List (κ × β)}, (k, v) ∈ l → ∃ w, l.lookup k = some w
  | [], h => by simp at h
  | (a, b) :: r, h => by
    rw [List.lookup_cons]
    cases e : k == a with
    | true => exact ⟨b, rfl⟩
    | false =>
      rcases List.mem_cons.mp h with h | h
      · injection h with h1 h2
        rw [h1] at e
        simp at e
      · exact lk_of_mem h
/-- the closure of a comprehension's block: the free names' cells -/
theorem closure_ok {env : Env} {scope : Scope} (h : ∀ x ∈ scope.names, x.2 = .free → ∃ c, env.cells.lookup x.1 = some c) :
    ∃ cl, closureFor scope env = pure cl ∧ (∀ x c, (x, c) ∈ cl → (x, NameKind.free) ∈ scope.names ∧ env.cells.lookup x = some c) ∧ ∀ x, (x, NameKind.free) ∈ scope.names → ∃ c, (x, c) ∈ cl := by
  have all : ∀ (names : List (Str × NameKind)) (acc : List (Str × Addr)), (∀ x ∈ names, x.2 = .free → ∃ c, env.cells.lookup x.1 = some c) →
      ∃ cl : List (Str × Addr), (forIn names acc fun (x : Str × NameKind) (r : List (Str × Addr)) => (if (x.2 == NameKind.free) = true then do let c ← cellOf env x.1; pure (ForInStep.yield ((x.1, c) :: r)) else pure (ForInStep.yield r) : Sem (ForInStep (List (Str × Addr))))) = pure cl ∧
        (∀ x c, (x, c) ∈ cl → (x, c) ∈ acc ∨ ((x, NameKind.free) ∈ names ∧ env.cells.lookup x = some c)) ∧ (∀ p ∈ acc, p ∈ cl) ∧ ∀ x, (x, NameKind.free) ∈ names → ∃ c, (x, c) ∈ cl := by
    intro names
    induction names with
    | nil => intro acc _; exact ⟨acc, rfl, fun x c h => .inl h, fun p h => h, fun x h => by simp at h⟩
    | cons y r ih =>
      intro acc hy
      obtain ⟨n, k⟩ := y
      by_cases hk : k = .free
      · subst hk
        obtain ⟨c, hc⟩ := hy (n, .free) List.mem_cons_self rfl
        obtain ⟨cl, e, h1, h2, h3⟩ := ih ((n, c) :: acc) fun x hx => hy x (List.mem_cons_of_mem _ hx)
        refine ⟨cl, ?_, fun x d hd => ?_, fun p hp => h2 p (List.mem_cons_of_mem _ hp), fun x hx => ?_⟩
        · rw [List.forIn_cons]
          have hcell : cellOf env n = pure c := by unfold cellOf; rw [hc]
          simp only [beq_self_eq_true, if_true, hcell, pure_bind]
          exact e
        · rcases h1 x d hd with q | ⟨q1, q2⟩
          · rcases List.mem_cons.mp q with q | q
            · injection q with q1 q2
              subst q1 q2
              exact .inr ⟨List.mem_cons_self, hc⟩
            · exact .inl q
          · exact .inr ⟨List.mem_cons_of_mem _ q1, q2⟩
        · rcases List.mem_cons.mp hx with q | q
          · injection q with q1 _
            subst q1
            exact ⟨c, h2 _ List.mem_cons_self⟩
          · exact h3 x q
      · obtain ⟨cl, e, h1, h2, h3⟩ := ih acc fun x hx => hy x (List.mem_cons_of_mem _ hx)
        refine ⟨cl, ?_, fun x d hd => (h1 x d hd).imp id fun q => ⟨List.mem_cons_of_mem _ q.1, q.2⟩, h2, fun x hx => ?_⟩
        · rw [List.forIn_cons]
          have hb : (k == NameKind.free) = false := by simpa using hk
          simp only [hb, Bool.false_eq_true, if_false, pure_bind]
          exact e
        · rcases List.mem_cons.mp hx with q | q
          · injection q with _ q2
            exact absurd q2.symm hk
          · exact h3 x q
  obtain ⟨cl, e, h1, _, h3⟩ := all scope.names [] h
  refine ⟨cl, ?_, fun x c q => (h1 x c q).resolve_left (by simp), h3⟩
  show ((forIn scope.names ([] : List (Str × Addr)) fun (x : Str × NameKind) (r : List (Str × Addr)) => (if (x.2 == NameKind.free) = true then do let c ← cellOf env x.1; pure (ForInStep.yield ((x.1, c) :: r)) else pure (ForInStep.yield r) : Sem (ForInStep (List (Str × Addr))))) >>= fun r => pure r) = pure cl
  rw [e]
  rfl

theorem lk_relabel_free {env : Env} : ∀ {names : List (Str × NameKind)} {x : Str}, names.lookup x = some .free →
    (names.map fun (n, k) => if (k == NameKind.free && env.scope.kind == .function && env.kindOf n == some .cell) then (n, NameKind.cell) else (n, k)).lookup x = some .cell ∨
    (names.map fun (n, k) => if (k == NameKind.free && env.scope.kind == .function && env.kindOf n == some .cell) then (n, NameKind.cell) else (n, k)).lookup x = some .free
  | [], _, h => by simp at h
  | (n, k) :: r, x, h => by
    have ih := @lk_relabel_free env r x
    show List.lookup x ((if (k == NameKind.free && env.scope.kind == .function && env.kindOf n == some .cell) = true then (n, NameKind.cell) else (n, k)) :: _) = _ ∨ List.lookup x ((if (k == NameKind.free && env.scope.kind == .function && env.kindOf n == some .cell) = true then (n, NameKind.cell) else (n, k)) :: _) = _
    cases hx : x == n with
    | true =>
      simp only [List.lookup_cons, hx] at h
      cases h
      by_cases hc : (NameKind.free == NameKind.free && env.scope.kind == .function && env.kindOf n == some .cell) = true
      · rw [if_pos hc]; simp only [List.lookup_cons, hx]; exact .inl trivial
      · rw [if_neg hc]; simp only [List.lookup_cons, hx]; exact .inr trivial
    | false =>
      simp only [List.lookup_cons, hx] at h
      by_cases hc : (k == NameKind.free && env.scope.kind == .function && env.kindOf n == some .cell) = true
      · rw [if_pos hc]; simp only [List.lookup_cons, hx]; exact ih h
      · rw [if_neg hc]; simp only [List.lookup_cons, hx]; exact ih h

/-- the context of a comprehension's block -/
def cxComp (X : Cx) (scope : Scope) (N : List Str) (cl : List (Str × Addr)) (C : Addr) (s : Shared) (H : Hp) (fp : List Addr) (pn : List (Addr × Obj)) : Cx :=
  { X with N := N, s₀ := s, H₀ := H, env := compEnvC scope cl C X.env, outer := X.stack, stack := X.stack, ex := fp, fn := fun _ => false, pn := pn, xe := fun _ _ => False }
/-- the captured names: their slots without, their names -/
def CapsOk (X : Cx) (scope : Scope) : List (Nat × Str) → Prop
  | [] => True
  | p :: r => (X.N[p.1]? = some p.2 ∧ scope.names.lookup p.2 = some .free ∧ (X.env.scope.names.lookup p.2 = some .cell ∨ X.env.scope.names.lookup p.2 = some .free)) ∧ CapsOk X scope r
theorem CapsOk.get {X : Cx} {scope : Scope} : ∀ {caps : List (Nat × Str)} {j : Nat} {p : Nat × Str}, CapsOk X scope caps → caps[j]? = some p →
    X.N[p.1]? = some p.2 ∧ scope.names.lookup p.2 = some .free ∧ (X.env.scope.names.lookup p.2 = some .cell ∨ X.env.scope.names.lookup p.2 = some .free)
  | [], _, _, _, h => by simp at h
  | q :: r, 0, p, h, e => by simp at e; subst e; exact h.1
  | q :: r, j + 1, p, h, e => CapsOk.get h.2 (by simpa using e)
/-- the slots of the block at its entry -/
def capSt (own : List Str) (caps : List (Nat × Str)) (σ : St) : St := own.map (fun _ => none) ++ caps.map fun p => (σ[p.1]?).join
/-- a comprehension's turns: W what holds ahead of each, with a measure -/
def CompW (J : It) (D : Addr) (σ0 : St) (H1 : Hp) (g : TG) (tf : TT) (te : TE) (Q : VK) : Prop := ∃ W : Nat → Nat → St → Hp → Prop,
  (∃ m, W 0 m σ0 (upd H1 D (.lst []))) ∧ ∀ i m σ' H', W i m σ' H' →
    (J.stop i H' ∧ Q (.ref D) H') ∨ (J.go i H' ∧ ∀ x H2, J.yld i H' x H2 → g x σ' H2 fun σ2 H3 => tf σ2 H3 fun b H4 =>
      if b = true then te σ2 H4 fun v H5 => ∃ ys, H5 D = some (.lst ys) ∧ ys.length < sizeLine ∧ ∃ m', m' < m ∧ W (i + 1) m' σ2 (upd H5 D (.lst (ys ++ [v])))
      else ∃ m', m' < m ∧ W (i + 1) m' σ2 H4)
/-- a comprehension's reading -/
def tComp (wi : TI) (own : List Str) (caps : List (Nat × Str)) (g : TG) (tf : TT) (te : TE) : TE := fun σ H Q => wi σ H fun J H1 => ∀ D, H1 D = none → CompW J D (capSt own caps σ) H1 g tf te Q
def PTs (X : Cx) (ifs : List Expr) (t : TT) : Prop :=
  ∀ (pins : List (Addr × Obj)) (s : Shared) (σ : St) (H : Hp) (Q : Bool → Hp → Prop), Inv X pins σ H s → t σ H Q → wpAny (model X.prog X.w) X.A (forIn ifs true fun c r => if r = true then do let ok ← isTrue c X.env (eval c X.env); pure (ForInStep.yield ok) else pure (ForInStep.yield r)) (TP X pins σ Q) X.xe s
def tTrue : TT := fun _ H Q => Q true H
theorem pts_nil {X : Cx} : PTs X [] tTrue := fun _ _ _ H _ I h => wpAny_tests_nil ⟨H, I, h⟩
theorem pts_one {X : Cx} {c : Expr} {t : TT} (h : PT X c t) : PTs X [c] t := fun pins s σ H Q I hw => wpAny_tests_one (h pins s σ H Q I hw)

theorem comp_loop {prog : Program} {w : World} {A : Around} {R : Result → Shared → Prop} {s : Shared} {elt target iter : Expr} {ifs : List Expr} {scope : Scope} {pos : Pos} {it acc : Value} {env : Env} (I : Nat → Shared → Prop)
    (turn : ∀ n s, I n s → wpAny (model prog w) A (pyNext it) (fun r s₁ => match r with
      | none => R (.ok .next) s₁
      | some v => wpAny (model prog w) A (letOwnedTupleGo target it v) (fun _ s₁' => wpAny (model prog w) A (assign target env v) (fun _ s₂ =>
          wpAny (model prog w) A (forIn ifs true fun c r => if r = true then do let ok ← isTrue c env (eval c env); pure (ForInStep.yield ok) else pure (ForInStep.yield r)) (fun ok s₃ =>
            if ok = true then wpAny (model prog w) A (eval elt env) (fun x s₄ =>
              wpAny (model prog w) A (call (.builtin "list.append") [acc, x]) (fun _ s₅ => ∃ m, m < n ∧ I m s₅) (fun _ _ => False) s₄) (fun _ _ => False) s₃
            else ∃ m, m < n ∧ I m s₃) (fun _ _ => False) s₂) (fun _ _ => False) s₁') (fun _ _ => False) s₁) (fun _ _ => False) s)
    (n : Nat) (h : I n s) :
    codeAny (model prog w) A (.compLoop (.ListComp elt [⟨target, iter, ifs, 0⟩] scope pos) 0 it acc env) R s := by
  refine codeAny_loop rfl I (fun n s hI => ?_) n h
  show wpAny _ A ((compTurn (.ListComp elt [⟨target, iter, ifs, 0⟩] scope pos) 0 it acc env).onRaise (fun x => do noteFrame x env; theTreesLotGoes x)) _ _ s
  refine wpAny_noted ?_
  rw [compTurn_list]
  refine wpAny_bind (wpAny_standAt (wpAny_bind (wpAny_mono (turn n s hI) (fun r s₁ h₁ => ?_) fun _ _ h' => h'.elim)))
  cases r with
  | none => exact wpAny_pure h₁
  | some v =>
    refine wpAny_bind (wpAny_mono h₁ (fun _ s₁' h₁' => ?_) fun _ _ h' => h'.elim)
    refine wpAny_bind (wpAny_mono h₁' (fun _ s₂ h₂ => wpAny_bind (wpAny_mono h₂ (fun ok s₃ h₃ => ?_) fun _ _ h' => h'.elim)) fun _ _ h' => h'.elim)
    cases ok with
    | false => exact wpAny_pure ⟨rfl, h₃⟩
    | true =>
      exact wpAny_bind (wpAny_bind (wpAny_mono h₃ (fun x s₄ h₄ => wpAny_bind (wpAny_mono h₄ (fun _ s₅ h₅ => wpAny_pure (wpAny_pure ⟨rfl, h₅⟩)) fun _ _ h' => h'.elim)) fun _ _ h' => h'.elim))

section
variable {X : Cx} {pins : List (Addr × Obj)} {σ : St}
/-- what is without a comprehension's block, seen from within -/
theorem comp_ok {H2 : Hp} {s2 : Shared} {fp : List Addr} {scope : Scope} {N : List Str} {cl : List (Str × Addr)} {C : Addr} (I2 : Inv X pins σ H2 s2) (f2 : ∀ b ∈ fp, FpOk X pins H2 b) (hC : s2.heap.objs.size < C)
    (hfs : ∀ b ∈ fp, b < s2.heap.objs.size) (hkind : scope.kind = .function) (hcl : ∀ x c, cl.lookup x = some c → X.env.cells.lookup x = some c)
    (hhas : ∀ x, ((relabel scope X.env).names.lookup x = some .cell ∨ (relabel scope X.env).names.lookup x = some .free) → ∃ c, cl.lookup x = some c) :
    (cxComp X scope N cl C s2 H2 fp (X.pn ++ pins)).Ok where
  mod := I2.ok.mod
  kind := hkind
  glob := I2.ok.glob
  blt := I2.ok.blt
  above := Nat.le_of_lt hC
  inj := fun x y c h1 h2 => I2.ok.inj x y c (hcl x c h1) (hcl y c h2)
  has := hhas
  cab := fun _ _ h _ => by cases h
  hd := I2.ok.hd
  frames := I2.ok.frames
  stk := .inl rfl
  exf := fun b hb => ⟨Nat.ne_of_lt (Nat.lt_trans (hfs b hb) hC), fun x c e => (f2 b hb).2.2.2.2.1 x c (hcl x c e)⟩
  bs := I2.bs
  bsz := Nat.le_trans I2.ok.bsz I2.sz
  noex := fun b o e hb => by
    rcases (f2 b hb).2.2.2.1 with z | z
    · exact I2.ok.noex b o e z
    · exact absurd (Nat.lt_of_lt_of_le (Heap.lt_size e) (Nat.le_trans I2.ok.bsz z)) (Nat.lt_irrefl _)
  exfs := fun b hb z => (List.mem_cons.mp (I2.stkSub b z)).elim (f2 b hb).2.1 (f2 b hb).2.2.1
  funs := I2.stack
  frf := I2.stkFree

theorem comp_start {H2 : Hp} {s2 : Shared} {fp : List Addr} {scope : Scope} {own : List Str} {caps : List (Nat × Str)} {cl : List (Str × Addr)} {D C : Addr} {h1 : Heap} {tk : Nat} {m : Str → Option Value}
    (I2 : Inv X pins σ H2 s2) (f2 : ∀ b ∈ fp, FpOk X pins H2 b) (hC : @Eq Nat C (s2.heap.objs.size + 1)) (hD : @Eq Nat D s2.heap.objs.size)
    (hfs : ∀ b ∈ fp, b < s2.heap.objs.size) (hkind : scope.kind = .function) (hcl : ∀ x c, cl.lookup x = some c → X.env.cells.lookup x = some c)
    (hhas : ∀ x, ((relabel scope X.env).names.lookup x = some .cell ∨ (relabel scope X.env).names.lookup x = some .free) → ∃ c, cl.lookup x = some c)
    (hcap : CapsOk X scope caps) (hns : h1.Ns C m) (old : ∀ b o, s2.heap.get? b = some o → h1.get? b = some o) (hlst : ∃ n, h1.get? D = some { cls := .type "list", data := .seq #[] n }) :
    Inv (cxComp X scope (own ++ caps.map (·.2)) cl C s2 H2 fp (X.pn ++ pins)) [] (capSt own caps σ) (upd H2 D (.lst [])) { s2 with heap := h1, toks := tk } := by
  have hCs : s2.heap.objs.size < C := by omega
  have hDn : H2 D = none := I2.hok.fresh (by omega)
  have hCn : H2 C = none := I2.hok.fresh (by omega)
  have hCD : C ≠ D := by show ¬ @Eq Nat C D; omega
  have hDs : s2.heap.objs.size ≤ D := by show @LE.le Nat _ s2.heap.objs.size D; omega
  have new : ObjOk X.prog X.w (upd H2 D (.lst [])) h1 D (.lst []) := let ⟨n, e⟩ := hlst; ⟨Nat.zero_le _, [], n, .nil, e⟩
  refine ⟨comp_ok I2 f2 hCs hfs hkind hcl hhas, rfl, I2.bare, Un.laid old hDs hDn, ⟨m, hns, fun i x v e1 e2 e3 => ?_⟩, fun x c e => ?_, ?_, fun x c e => ?_, fun p hp => ?_, I2.hok.laid old hDs new, ?_⟩
  · -- a captured name
    have e2' : (capSt own caps σ)[i]? = some (some v) := e2
    unfold capSt at e2'
    by_cases hi : i < own.length
    · rw [List.getElem?_append_left (by simpa using hi), List.getElem?_map] at e2'
      cases q : own[i]? with
      | none => rw [q] at e2'; cases e2'
      | some y => rw [q] at e2'; cases e2'
    · have hle : own.length ≤ i := Nat.le_of_not_lt hi
      rw [List.getElem?_append_right (by simpa using hle), List.getElem?_map, List.length_map] at e2'
      have e1' : (own ++ caps.map (·.2))[i]? = some x := e1
      rw [List.getElem?_append_right hle, List.getElem?_map] at e1'
      cases q : caps[i - own.length]? with
      | none => rw [q] at e2'; cases e2'
      | some p =>
        rw [q] at e2' e1'
        have ex : p.2 = x := Option.some.inj e1'
        have ev : (σ[p.1]?).join = some v := Option.some.inj e2'
        obtain ⟨hN, hf, hv⟩ := hcap.get q
        have hσ : σ[p.1]? = some (some v) := by
          cases r : σ[p.1]? with
          | none => rw [r] at ev; cases ev
          | some y => rw [r] at ev; rw [show y = some v from ev]
        obtain ⟨mX, _, hl⟩ := I2.loc
        obtain ⟨u, ru, lk⟩ := hl p.1 p.2 v hN hσ (.inr hv)
        subst ex
        refine ⟨u, ru, .inr ⟨lk_relabel_free hf, ?_⟩⟩
        rcases lk with ⟨k, _⟩ | ⟨_, c, e, z⟩
        · have k' : X.env.scope.names.lookup p.2 = some .local := k
          rw [k'] at hv
          rcases hv with z | z <;> cases z
        · obtain ⟨c', e'⟩ := hhas p.2 (lk_relabel_free hf)
          have e2 := hcl p.2 c' e'
          rw [e] at e2
          cases e2
          obtain ⟨o, ho, hd⟩ := z
          exact ⟨c, e', o, old c o ho, hd⟩
  · obtain ⟨v, o, ho, hd⟩ := I2.cell x c (hcl x c e)
    exact ⟨v, o, old c o ho, hd⟩
  · show upd H2 D (.lst []) C = none
    rw [upd_ne hCD]; exact hCn
  · obtain ⟨v, q⟩ := I2.cell x c (hcl x c e)
    rw [upd_ne (Nat.ne_of_lt (Nat.lt_of_lt_of_le q.lt hDs))]
    exact I2.freeC x c (hcl x c e)
  · have hp' : p ∈ X.pn ++ pins := by
      have hp2 : p ∈ (X.pn ++ pins) ++ [] := hp
      rwa [List.append_nil] at hp2
    obtain ⟨e, n, ne, nf, d⟩ := I2.pin p hp'
    have lt := Heap.lt_size e
    refine ⟨old p.1 p.2 e, by rw [upd_ne (Nat.ne_of_lt (Nat.lt_of_lt_of_le lt hDs))]; exact n, ?_, fun z => (List.mem_cons.mp (I2.stkSub p.1 z)).elim ne nf, d⟩
    exact Nat.ne_of_lt (Nat.lt_trans lt hCs)
  · show (capSt own caps σ).length = (own ++ caps.map (·.2)).length
    unfold capSt
    simp

/-- back from the block -/
theorem comp_back {H2 H' : Hp} {s2 s' : Shared} {fp : List Addr} {scope : Scope} {N : List Str} {cl : List (Str × Addr)} {C : Addr} {σ' : St} {pn : List (Addr × Obj)} (I2 : Inv X pins σ H2 s2) (f2 : ∀ b ∈ fp, FpOk X pins H2 b)
    (J : Inv (cxComp X scope N cl C s2 H2 fp pn) [] σ' H' s') : Inv X pins σ H' s' :=
  I2.call' (s' := s') (ch := fp) J.os J.base J.hok J.bare fun b hb => ⟨(f2 b hb).2.2.2.1, (f2 b hb).2.1, (f2 b hb).2.2.2.2.1, (f2 b hb).2.2.2.2.2⟩
/-- the block's names go -/
theorem Inv.gone {H : Hp} {s : Shared} {C : Addr} {h' : Heap} (I : Inv X pins σ H s) (hs : Heap.SameBut C s.heap h') (hn : H C = none) (h0 : X.s₀.heap.objs.size ≤ C) (hL : C ≠ X.env.locals) (h2 : ∀ x c, X.env.cells.lookup x = some c → c ≠ C) (h3 : ∀ p ∈ X.pn ++ pins, p.1 ≠ C) :
    Inv X pins σ H { s with heap := h' } := I.turned (t' := s.toks) (fun b o hb e => (hs.2 b hb).trans e) hn hL (.inr h0) h2 h3
end

theorem free_of_relabel {env : Env} {scope : Scope} {x : Str} (hcell : ∀ y ∈ scope.names, y.2 ≠ .cell) (h : (relabel scope env).names.lookup x = some .cell ∨ (relabel scope env).names.lookup x = some .free) : (x, NameKind.free) ∈ scope.names := by
  have all : ∀ k, (relabel scope env).names.lookup x = some k → (k = .cell ∨ k = .free) → (x, NameKind.free) ∈ scope.names := by
    intro k e hk
    have m := mem_of_lk e
    obtain ⟨⟨n, j⟩, hm, q⟩ := List.mem_map.mp (show (x, k) ∈ scope.names.map _ from m)
    dsimp only at q
    by_cases c : (j == NameKind.free && env.scope.kind == .function && env.kindOf n == some .cell) = true
    · rw [if_pos c] at q
      injection q with q1 q2
      subst q1
      have jf : j = .free := by
        simp only [Bool.and_eq_true] at c
        exact eq_of_beq c.1.1
      rw [← jf]; exact hm
    · rw [if_neg c] at q
      injection q with q1 q2
      subst q1 q2
      rcases hk with z | z
      · exact absurd z (hcell _ hm)
      · rw [z] at hm; exact hm
  rcases h with h | h
  · exact all _ h (.inl rfl)
  · exact all _ h (.inr rfl)

/-! ## What a comprehension walks, for the contexts that Z lets through (calm ones; or ones that handle an exception) -/
structure Steps (Y : Cx) (tg : Expr) (J : It) (fp : List Addr) (it : Addr) (tn : Nat → Heap → Prop) : Prop where
  item : ∀ (i : Nat) (pins : List (Addr × Obj)) (s : Shared) (σ : St) (H : Hp) (E : Value → Shared → Prop), Inv Y pins σ H s → (∀ b ∈ fp, FpOk Y pins H b) → tn i s.heap → J.go i H →
    wpAny (model Y.prog Y.w) Y.A (pyNext (.ref it)) (fun r s1 => ∃ u, r = some u ∧
      wpAny (model Y.prog Y.w) Y.A (letOwnedTupleGo tg (.ref it) u) (fun _ s2 => ∃ x H', Inv Y pins σ H' s2 ∧ RelV x u ∧ J.yld i H x H' ∧ tn (i + 1) s2.heap ∧ ∀ b ∈ fp, H' b = none) E s1) E s
  done : ∀ (i : Nat) (pins : List (Addr × Obj)) (s : Shared) (σ : St) (H : Hp) (E : Value → Shared → Prop), Inv Y pins σ H s → (∀ b ∈ fp, FpOk Y pins H b) → tn i s.heap → J.stop i H →
    wpAny (model Y.prog Y.w) Y.A (pyNext (.ref it)) (fun r s1 => r = none ∧ Inv Y pins σ H s1) E s
structure Trn (P : Program) (w : World) (K : PySem.W.Frag) (Z : Cx → Prop) (tg : Expr) (J : It) (fp : List Addr) (it : Addr) (tn : Nat → Heap → Prop) : Prop where
  obj : ∀ i h, tn i h → ∀ b ∈ fp, ∃ o, h.get? b = some o ∧ ∀ v, o.data ≠ .cell v
  keep : ∀ i h h', tn i h → (∀ b ∈ fp, ∀ o, h.get? b = some o → h'.get? b = some o) → tn i h'
  steps : ∀ Y : Cx, Y.prog = P → Y.w = w → Y.K = K → Z Y → Steps Y tg J fp it tn
  self : ∀ (A : Around) (i : Nat) (s : Shared) (Q : Value → Shared → Prop) (E : Value → Shared → Prop), tn i s.heap → Q (.ref it) s → wpAny (model P w) A (pyIter (.ref it)) Q E s
def PIEq (Z : Cx → Prop) (X : Cx) (pins : List (Addr × Obj)) (σ : St) (tg : Expr) (R : It → Hp → Prop) (itv : Value) (s2 : Shared) : Prop :=
  ∃ (it : Addr) (fp : List Addr) (tn : Nat → Heap → Prop) (J : It) (H' : Hp), itv = .ref it ∧ Inv X pins σ H' s2 ∧ Trn X.prog X.w X.K Z tg J fp it tn ∧ tn 0 s2.heap ∧ (∀ b ∈ fp, FpOk X pins H' b) ∧ R J H'
def PIq (Z : Cx → Prop) (X : Cx) (tg iter : Expr) (wi : TI) : Prop :=
  ∀ (pins : List (Addr × Obj)) (s : Shared) (σ : St) (H : Hp) (R : It → Hp → Prop), Inv X pins σ H s → wi σ H R →
    wpAny (model X.prog X.w) X.A (eval iter X.env) (fun v s1 => wpAny (model X.prog X.w) X.A (pyIter v) (PIEq Z X pins σ tg R) X.xe s1) X.xe s
theorem PI.q {X : Cx} {tg iter : Expr} {wi : TI} (h : PI X tg iter wi) : PIq (fun Y => Y.calm = true) X tg iter wi := fun pins s σ H R I q =>
  thn (h pins s σ H R I q) fun v s1 h1 => thn h1 fun itv s2 h2 => by
    obtain ⟨it, fp, tn, J, H', e, I', T, t0, f, r⟩ := h2
    exact ⟨it, fp, tn, J, H', e, I', ⟨T.obj, T.keep, fun Y hP hw hK hz => ⟨fun i pins s σ H E => hP ▸ hw ▸ T.item Y hP hw hK hz i pins s σ H E, fun i pins s σ H E => hP ▸ hw ▸ T.done Y hP hw hK hz i pins s σ H E⟩, T.self⟩, t0, f, r⟩

section
variable {X : Cx} {elt target iter : Expr} {ifs : List Expr} {scope : Scope} {pos : Pos} {own : List Str} {caps : List (Nat × Str)} {wi : TI} {g : TG} {tf : TT} {te : TE}
/-- what a comprehension's scope must be: no cells of its own, its locals there, what is free is a cell without -/
structure CompScope (X : Cx) (scope : Scope) (caps : List (Nat × Str)) : Prop where
  kind : scope.kind = .function
  cell : (scope.names.all fun y => !(y.2 == .cell)) = true
  names : (scope.names.all fun y => !(y.2 == .local) || scope.names.lookup y.1 == some .local) = true
  free : (scope.names.all fun y => !(y.2 == .free) || (X.env.scope.names.lookup y.1 == some .cell || X.env.scope.names.lookup y.1 == some .free)) = true
  caps : CapsOk X scope caps
theorem comp_core {use : Option (Value → Sem Unit)} {R : Value → Shared → Prop} {pins : List (Addr × Obj)} {σ : St} {s : Shared} {H : Hp} {Q : VK} (Z : Cx → Prop) (hc : ∀ cl C s H fp pins, Z (cxComp X scope (own ++ caps.map (·.2)) cl C s H fp (X.pn ++ pins))) (S : CompScope X scope caps) (hi : PIq Z X target iter wi)
    (hg : ∀ cl C s H fp pn, PG (cxComp X scope (own ++ caps.map (·.2)) cl C s H fp pn) target g)
    (ht : ∀ cl C s H fp pn, PTs (cxComp X scope (own ++ caps.map (·.2)) cl C s H fp pn) ifs tf)
    (he : ∀ cl C s H fp pn, PE (cxComp X scope (own ++ caps.map (·.2)) cl C s H fp pn) elt te)
    (I : Inv X pins σ H s) (h : tComp wi own caps g tf te σ H Q)
    (fin : ∀ D C H' s' m, Inv X pins σ H' s' → s'.heap.Ns C m → H' C = none → X.s₀.heap.objs.size ≤ C → C ≠ X.env.locals → (∀ x c, X.env.cells.lookup x = some c → c ≠ C) → (∀ p ∈ X.pn ++ pins, p.1 ≠ C) → Q (.ref D) H' →
      compPost (model X.prog X.w) X.A X.xe use R (.ref D) C (.ok .next) s')
    (hs : ∀ x, foldedSetIterable iter X.env x = pure x) :
    wpAny (model X.prog X.w) X.A (comprehension (.ListComp elt [⟨target, iter, ifs, 0⟩] scope pos) scope X.env (firstIterPos [⟨target, iter, ifs, 0⟩] pos) (newList []) false (eval iter X.env) use) R X.xe s := by
  have hcell : ∀ y ∈ scope.names, y.2 ≠ .cell := fun y hy z => by
    have := List.all_eq_true.mp S.cell y hy
    rw [z] at this; cases this
  have hnames : ∀ y ∈ scope.names, y.2 = .local → scope.names.lookup y.1 = some .local := fun y hy z => by
    have := List.all_eq_true.mp S.names y hy
    rw [z] at this
    simpa using this
  have hfree : ∀ y ∈ scope.names, y.2 = .free → X.env.scope.names.lookup y.1 = some .cell ∨ X.env.scope.names.lookup y.1 = some .free := fun y hy z => by
    have := List.all_eq_true.mp S.free y hy
    rw [z] at this
    simpa using this
  obtain ⟨cl, hclos, hcl0, hcl1⟩ := closure_ok (env := X.env) (scope := scope) fun y hy z => I.ok.has y.1 (hfree y hy z)
  have hcl : ∀ x c, cl.lookup x = some c → X.env.cells.lookup x = some c := fun x c e => (hcl0 x c (mem_of_lk e)).2
  have hhas : ∀ x, ((relabel scope X.env).names.lookup x = some .cell ∨ (relabel scope X.env).names.lookup x = some .free) → ∃ c, cl.lookup x = some c := fun x hx => by
    obtain ⟨c, hm⟩ := hcl1 x (free_of_relabel hcell hx)
    exact lk_of_mem hm
  refine wpAny_comprehension_free (g := ⟨target, iter, ifs, 0⟩) (gs := []) rfl hs hclos S.kind hnames (thn (hi pins s σ H _ I h) fun v s1 h1 => thn h1 fun itv s2 h2 => ?_)
  obtain ⟨it, fp, tn, J, H2, e, I2, T, st2, f2, cont⟩ := h2
  subst e
  obtain ⟨W, ⟨m0, w0⟩, turn⟩ := cont s2.heap.objs.size (I2.hok.fresh (Nat.le_refl _))
  refine wpAny_newObj_type (wpAny_newFunctionEnv hcell (by intro y hy; simp at hy) (fun h₁ hns₁ hsb₁ => ?_) S.kind)
  dsimp only at hns₁ hsb₁ ⊢
  generalize hH2 : s2.heap.push { cls := .type "list", dict := none, data := .seq ([] : List Value).toArray } = HL at hns₁ hsb₁ ⊢
  have hC : HL.objs.size = s2.heap.objs.size + 1 := by rw [← hH2, Heap.size_push]
  have hfs : ∀ b ∈ fp, b < s2.heap.objs.size := fun b hb => let ⟨_, e, _⟩ := T.obj 0 _ st2 b hb; Heap.lt_size e
  have old : ∀ b o, s2.heap.get? b = some o → h₁.get? b = some o := fun b o e =>
    hsb₁.extBut b o (by rw [hC]; exact Nat.ne_of_lt (Nat.lt_succ_of_lt (Heap.lt_size e))) (Heap.get?_push_of_some _ (hH2 ▸ Heap.get?_push_of_some _ e))
  have hlst : ∃ n, h₁.get? s2.heap.objs.size = some { cls := .type "list", data := .seq #[] n } := ⟨_, hsb₁.extBut _ _ (by rw [hC]; exact Nat.ne_of_lt (Nat.lt_succ_self _)) (Heap.get?_push_of_some _ (hH2 ▸ Heap.get?_push_size _ rfl))⟩
  have I4 : Inv (cxComp X scope (own ++ caps.map (·.2)) cl HL.objs.size s2 H2 fp (X.pn ++ pins)) [] (capSt own caps σ) (upd H2 s2.heap.objs.size (.lst [])) { s2 with heap := h₁, toks := s2.toks + ([] : List (Str × Value)).length } :=
    comp_start I2 f2 hC rfl hfs S.kind hcl hhas S.caps hns₁ old hlst
  have st4 : tn 0 h₁ := T.keep 0 _ _ st2 fun b hb o e => old b o e
  have fr4 : ∀ b ∈ fp, upd H2 s2.heap.objs.size (.lst []) b = none := fun b hb => by
    rw [upd_ne (Nat.ne_of_lt (hfs b hb))]; exact (f2 b hb).1
  have hCs : s2.heap.objs.size < HL.objs.size := by rw [hC]; exact Nat.lt_succ_self _
  have loop : codeAny (model X.prog X.w) X.A (.compLoop (.ListComp elt [⟨target, iter, ifs, 0⟩] scope pos) 0 (.ref it) (.ref s2.heap.objs.size) (compEnvC scope cl HL.objs.size X.env))
      (compPost (model X.prog X.w) X.A X.xe use R (.ref s2.heap.objs.size) HL.objs.size) { s2 with heap := h₁, toks := s2.toks + ([] : List (Str × Value)).length } := by
    refine comp_loop (fun n s' => ∃ i σ' H', Inv (cxComp X scope (own ++ caps.map (·.2)) cl HL.objs.size s2 H2 fp (X.pn ++ pins)) [] σ' H' s' ∧ tn i s'.heap ∧ (∀ b ∈ fp, H' b = none) ∧ W i n σ' H') ?_ m0 ⟨0, _, _, I4, st4, fr4, w0⟩
    have U := T.steps (cxComp X scope (own ++ caps.map (·.2)) cl HL.objs.size s2 H2 fp (X.pn ++ pins)) rfl rfl rfl (hc _ _ _ _ _ _)
    rintro n s3 ⟨i, σ3, H3, I3, st3, fr3, w3⟩
    have stat : ∀ {H' : Hp}, (∀ b ∈ fp, H' b = none) → ∀ b ∈ fp, FpOk (cxComp X scope (own ++ caps.map (·.2)) cl HL.objs.size s2 H2 fp (X.pn ++ pins)) [] H' b := fun {H'} hn b hb => by
      refine ⟨hn b hb, (I3.ok.exf b hb).1, I3.ok.exfs b hb, .inl hb, (I3.ok.exf b hb).2, fun p hp => ?_⟩
      have hp' : p ∈ X.pn ++ pins := by
        have hp2 : p ∈ (X.pn ++ pins) ++ [] := hp
        rwa [List.append_nil] at hp2
      exact (f2 b hb).2.2.2.2.2 p hp'
    rcases turn i n σ3 H3 w3 with ⟨stop, qn⟩ | ⟨go, step⟩
    · refine thn (U.done i [] s3 σ3 H3 _ I3 (stat fr3) st3 stop) fun r s4 ⟨hr, I4⟩ => ?_
      subst hr
      obtain ⟨m, hm, _⟩ := I4.loc
      refine fin s2.heap.objs.size HL.objs.size H3 s4 m (comp_back I2 f2 I4) hm I4.free (Nat.le_trans I2.sz (Nat.le_of_lt hCs)) (Nat.ne_of_gt (Nat.lt_trans I2.lt hCs)) (fun x c e z => ?_) (fun p hp z => ?_) qn
      · obtain ⟨v, q⟩ := I2.cell x c e
        exact absurd (Nat.lt_trans q.lt hCs) (by rw [z]; exact Nat.lt_irrefl _)
      · exact absurd (Nat.lt_trans (Heap.lt_size (I2.pin p hp).1) hCs) (by rw [z]; exact Nat.lt_irrefl _)
    · refine thn (U.item i [] s3 σ3 H3 _ I3 (stat fr3) st3 go) fun r s4 ⟨u, hr, h4⟩ => ?_
      subst hr
      refine thn h4 fun _ s5 ⟨x, H5, I5, r5, y5, st5, fr5⟩ => ?_
      have I5' := I5.pinned (stat fr5) (T.obj _ _ st5)
      refine thn (hg cl HL.objs.size s2 H2 fp (X.pn ++ pins) _ s5 σ3 H5 x u _ I5' r5 (step x H5 y5)) fun _ s6 ⟨σ6, H6, I6, q6⟩ => ?_
      refine thn (ht cl HL.objs.size s2 H2 fp (X.pn ++ pins) _ s6 σ6 H6 _ I6 q6) fun b s7 ⟨H7, I7, q7⟩ => ?_
      have again : ∀ {σ8 : St} {H8 : Hp} {s8 : Shared} {m' : Nat}, Inv (cxComp X scope (own ++ caps.map (·.2)) cl HL.objs.size s2 H2 fp (X.pn ++ pins)) ([] ++ pinsAt fp s5.heap) σ8 H8 s8 → m' < n → W (i + 1) m' σ8 H8 →
          ∃ m, m < n ∧ ∃ i σ' H', Inv (cxComp X scope (own ++ caps.map (·.2)) cl HL.objs.size s2 H2 fp (X.pn ++ pins)) [] σ' H' s8 ∧ tn i s8.heap ∧ (∀ b ∈ fp, H' b = none) ∧ W i m σ' H' := fun {σ8 H8 s8 m'} I8 hm w8 => by
        refine ⟨m', hm, i + 1, σ8, H8, I8.unpinned, T.keep _ _ _ st5 fun b hb o e => (I8.pin (b, o) (List.mem_append_right _ (List.mem_append_right _ (mem_pinsAt hb e)))).1, fun b hb => ?_, w8⟩
        obtain ⟨o, e, d⟩ := T.obj _ _ st5 b hb
        exact (I8.pin (b, o) (List.mem_append_right _ (List.mem_append_right _ (mem_pinsAt hb e)))).2.1
      cases b with
      | false =>
        rw [if_neg Bool.false_ne_true] at q7 ⊢
        obtain ⟨m', hm, w7⟩ := q7
        exact again I7 hm w7
      | true =>
        rw [if_pos rfl] at q7 ⊢
        refine thn (he cl HL.objs.size s2 H2 fp (X.pn ++ pins) _ s7 σ6 H7 _ I7 q7) fun y s8 ⟨v, H8, I8, r8, ys, hy, hz, m', hm, w8⟩ => ?_
        refine thn (mt_append _ s8 σ6 H8 (.ref s2.heap.objs.size) [v] (.ref s2.heap.objs.size) [y] (fun _ H9 => H9 = upd H8 s2.heap.objs.size (.lst (ys ++ [v]))) I8 rfl (.cons r8 .nil) ⟨_, ys, v, rfl, rfl, hy, hz, rfl⟩) fun z s9 ⟨_, H9, I9, _, e9⟩ => ?_
        subst e9
        exact again I9 hm w8
  exact codeAny_compStart_list loop (T.self _ 0 _ _ _ st4 loop)
/-- [elt for target in iter if ..] -/
theorem pe_comp (hc : X.calm = true) (S : CompScope X scope caps) (hi : PI X target iter wi)
    (hg : ∀ cl C s H fp pn, PG (cxComp X scope (own ++ caps.map (·.2)) cl C s H fp pn) target g)
    (ht : ∀ cl C s H fp pn, PTs (cxComp X scope (own ++ caps.map (·.2)) cl C s H fp pn) ifs tf)
    (he : ∀ cl C s H fp pn, PE (cxComp X scope (own ++ caps.map (·.2)) cl C s H fp pn) elt te)
    (hs : ∀ x, foldedSetIterable iter X.env x = pure x := by intro _; rfl) : PE X (.ListComp elt [⟨target, iter, ifs, 0⟩] scope pos) (tComp wi own caps g tf te) := by
  intro pins s σ H Q I h
  rw [eval_ListComp]
  refine comp_core (Q := Q) (fun Y => Y.calm = true) (fun _ _ _ _ _ _ => hc) S hi.q hg ht he I h (fun D C H' s' m I' hm hn h0 hL h2 h3 q => ?_) hs
  exact ⟨m, hm, fun h' hs' => ⟨.ref D, H', I'.gone hs' hn h0 hL h2 h3, rfl, q⟩⟩
theorem pe_compq (Z : Cx → Prop) (hc : ∀ cl C s H fp pins, Z (cxComp X scope (own ++ caps.map (·.2)) cl C s H fp (X.pn ++ pins))) (S : CompScope X scope caps) (hi : PIq Z X target iter wi)
    (hg : ∀ cl C s H fp pn, PG (cxComp X scope (own ++ caps.map (·.2)) cl C s H fp pn) target g)
    (ht : ∀ cl C s H fp pn, PTs (cxComp X scope (own ++ caps.map (·.2)) cl C s H fp pn) ifs tf)
    (he : ∀ cl C s H fp pn, PE (cxComp X scope (own ++ caps.map (·.2)) cl C s H fp pn) elt te)
    (hs : ∀ x, foldedSetIterable iter X.env x = pure x := by intro _; rfl) : PE X (.ListComp elt [⟨target, iter, ifs, 0⟩] scope pos) (tComp wi own caps g tf te) := by
  intro pins s σ H Q I h
  rw [eval_ListComp]
  refine comp_core (Q := Q) Z hc S hi hg ht he I h (fun D C H' s' m I' hm hn h0 hL h2 h3 q => ?_) hs
  exact ⟨m, hm, fun h' hs' => ⟨.ref D, H', I'.gone hs' hn h0 hL h2 h3, rfl, q⟩⟩
/-- name = [elt for target in iter if ..], stored ahead of the block's end -/
theorem ps_setC {i : Nat} {x : Str} {pos' spos : Pos} (hN : X.N.Nodup) (hn : X.N[i]? = some x) (hx : Loc X.env.scope x) (hc : X.calm = true) (S : CompScope X scope caps) (hi : PI X target iter wi)
    (hg : ∀ cl C s H fp pn, PG (cxComp X scope (own ++ caps.map (·.2)) cl C s H fp pn) target g)
    (ht : ∀ cl C s H fp pn, PTs (cxComp X scope (own ++ caps.map (·.2)) cl C s H fp pn) ifs tf)
    (he : ∀ cl C s H fp pn, PE (cxComp X scope (own ++ caps.map (·.2)) cl C s H fp pn) elt te)
    (hsw : swapsWith (.ListComp elt [⟨target, iter, ifs, 0⟩] scope pos) (some (.Name x pos')) spos.line X.env = pure true := by rfl)
    (hf : X.fn x = true ∨ X.env.scope.names.lookup x = some .local := by first | exact .inl rfl | exact .inr rfl | assumption)
    (hs : ∀ x, foldedSetIterable iter X.env x = pure x := by intro _; rfl) : PS X (.Assign [.Name x pos'] (.ListComp elt [⟨target, iter, ifs, 0⟩] scope pos) spos) (tAsg (tComp wi own caps g tf te) (gName i)) := by
  intro pins s σ H D I h
  rw [exec_Assign_Name_used _ _ _ _ hsw]
  refine wpAny_bind (wpAny_standAt (wpAny_bind ?_))
  show wpAny _ _ (do let _ ← comprehension (.ListComp elt [⟨target, iter, ifs, 0⟩] scope pos) scope X.env _ (newList []) false (eval iter X.env) (some (assign (.Name x pos') X.env))) _ _ s
  refine wpAny_bind (wpAny_mono (comp_core (use := some (assign (.Name x pos') X.env)) (R := fun _ s' => SP X pins D .next s') (Q := fun v H1 => gName i v σ H1 D.nx) (fun Y => Y.calm = true) (fun _ _ _ _ _ _ => hc) S hi.q hg ht he I h (fun Dl C H' s' m I' hm hnC h0 hL h2 h3 q => ?_) hs)
    (fun _ s' hq => wpAny_pure (wpAny_pure hq)) fun _ _ e => e)
  show wpAny _ _ (assign (.Name x pos') X.env (.ref Dl)) _ _ s'
  refine wpAny_assign_Name (store_ok2 I' hN hn hx (show RelV (.ref Dl) (.ref Dl) from rfl) (fun s'' I'' sb => ?_) hf)
  obtain ⟨a, hsb, ha⟩ := sb
  have hCa : C ≠ a := by
    rcases ha with z | z
    · rw [z]; exact hL
    · exact Ne.symm (h2 x a z)
  exact ⟨m, hm.sameBut hsb hCa, fun h' hs' => ⟨_, H', I''.gone hs' hnC h0 hL h2 h3, q⟩⟩
end
end L2

namespace L2
open PySem PySem.Spec PyProof.Rows

/-! ## The signs of a text, one after another -/
def sgn (c : Nat) : V := .str ⟨#[c]⟩
def Its (x : Str) : It := ⟨fun i _ => i < x.cps.size, fun i H v H' => H' = H ∧ ∃ c, x.cps[i]? = some c ∧ v = sgn c, fun i _ => i = x.cps.size⟩
theorem turn_str {P : Program} {w : World} {K : PySem.W.Frag} {tg : Expr} (it : Addr) (x : Str) (t : Tok) (ty : String)
    (hty : ["enumerate", "zip", "dict_itemiterator", "dict_reverseitemiterator", "odict_iterator", "itertools.zip_longest", "itertools.pairwise"].contains ty = false)
    (W : ∀ A : Around, A.handled = none → Walks P w A it [it] [it] x.cps.size (SignAt x) (fun i h => h.IsStrIter it ty x t i))
    (sf : ∀ (A : Around) (i : Nat) (s : Shared) (Q : Value → Shared → Prop) (E : Value → Shared → Prop), s.heap.IsStrIter it ty x t i → Q (.ref it) s → wpAny (model P w) A (pyIter (.ref it)) Q E s) :
    Turn P w K tg (Its x) [it] it (fun i h => h.IsStrIter it ty x t i) where
  mem := by simp
  obj := fun i h st b hb => by
    have e : b = it := by simpa using hb
    subst e
    obtain ⟨o, e, c, d⟩ := st
    exact ⟨o, e, fun v z => by rw [d] at z; cases z⟩
  keep := fun i h h' st k => by
    obtain ⟨o, e, r⟩ := st
    exact ⟨o, k it (by simp) o e, r⟩
  item := by
    intro X hP hw hK hc i pins s σ H E I hf st hg
    subst hP hw hK
    obtain ⟨f0, f1, f2, f3, f4, f5⟩ := hf it (by simp)
    refine (W X.A (I.ok.hd hc)).item i s _ _ hg st fun v h' tk hv st' kk => ?_
    obtain ⟨c, u, hc', rfl⟩ := hv
    have I1 : Inv X pins σ H { s with heap := h', toks := tk } := I.turned (fun b o hb e => kk b o (by simpa using hb) e) f0 f1 f3 f4 f5
    obtain ⟨o, e, cc, d⟩ := id st'
    exact ⟨_, rfl, go_of (s := { s with heap := h', toks := tk }) e cc d hty ⟨sgn c, H, I1, ⟨u, rfl⟩, ⟨rfl, c, hc', rfl⟩, st', fun b hb => (hf b hb).1⟩⟩
  done := by
    intro X hP hw hK hc i pins s σ H E I hf st hg
    subst hP hw hK
    obtain ⟨f0, f1, f2, f3, f4, f5⟩ := hf it (by simp)
    have hi : i = x.cps.size := hg
    subst hi
    exact (W X.A (I.ok.hd hc)).done s _ _ st fun h' tk kk => ⟨rfl, I.turned (fun b o hb e => kk b o (by simpa using hb) e) f0 f1 f3 f4 f5⟩
  self := fun A i s Q E st h => sf A i s Q E st h

section
variable {X : Cx} {tg : Expr}
def iStr (tl : TE) : TI := fun σ H R => tl σ H fun v H1 => ∃ x, v = .str x ∧ R (Its x) H1
theorem pi_str {l : Expr} {tl : TE} (hl : PE X l tl) : PI X tg l (iStr tl) := by
  intro pins s σ H R I h
  refine thn (hl pins s σ H _ I h) fun v s1 ⟨y, H1, I1, r1, q1⟩ => ?_
  obtain ⟨x, e, q⟩ := q1
  subst e
  obtain ⟨t, rfl⟩ := r1
  have hf : ∀ o : Obj, ∀ b ∈ [s1.heap.objs.size], FpOk X pins H1 b := fun o b hb => by
    have e : b = s1.heap.objs.size := by simpa using hb
    subst e
    exact I1.fpOk (Nat.le_refl _) (I1.hok.fresh (Nat.le_refl _))
  cases ha : x.cps.all (· < 128)
  · exact wpAny_pyIter_wide ha ⟨s1.heap.objs.size, [s1.heap.objs.size], _, _, H1, rfl, I1.kept (t' := s1.toks) fun b o e => Heap.get?_push_of_some _ e,
      turn_str _ x t "str_iterator" (by decide) (fun A hA => Walks.strWide hA _ x t) (fun A i s Q E st h => wpAny_pyIter_striter_wide st h), ⟨_, Heap.get?_push_size _ rfl, rfl, rfl⟩, hf default, q⟩
  · exact wpAny_pyIter_ascii ha ⟨s1.heap.objs.size, [s1.heap.objs.size], _, _, H1, rfl, I1.kept (t' := s1.toks) fun b o e => Heap.get?_push_of_some _ e,
      turn_str _ x t "str_ascii_iterator" (by decide) (fun A hA => Walks.strAscii hA _ x t) (fun A i s Q E st h => wpAny_pyIter_striter_ascii st h), ⟨_, Heap.get?_push_size _ rfl, rfl, rfl⟩, hf default, q⟩
end

/-! ## What an iterator gives, as a list -/
structure Gives (J : It) (Ok : Hp → Prop) (L : List V) : Prop where
  go : ∀ i H, Ok H → i < L.length → J.go i H
  yld : ∀ i H x H', Ok H → J.yld i H x H' → i < L.length → H' = H ∧ L[i]? = some x
  stop : ∀ H, Ok H → J.stop L.length H
theorem gives_range (lo : Int) (n : Nat) : Gives (Itr lo n) (fun _ => True) ((List.range n).map fun i => V.int (lo + (i : Nat))) where
  go := fun i H _ h => by
    have : i < n := by simpa using h
    exact this
  yld := fun i H x H' _ y h => by
    obtain ⟨e, rfl⟩ := y
    have : i < n := by simpa using h
    exact ⟨e, by simp [this]⟩
  stop := fun H _ => by
    show n ≤ _
    simp
theorem gives_str (x : Str) : Gives (Its x) (fun _ => True) (x.cps.toList.map sgn) where
  go := fun i H _ h => by
    have : i < x.cps.size := by simpa using h
    exact this
  yld := fun i H v H' _ y h => by
    obtain ⟨e, c, hc, rfl⟩ := y
    refine ⟨e, ?_⟩
    rw [List.getElem?_map]
    simp [hc]
  stop := fun H _ => by
    show _ = x.cps.size
    simp
theorem gives_list (K : PySem.W.Frag) (a : Addr) (xs : List V) : Gives (Itl K a) (fun H => SqL K H a xs) xs where
  go := fun i H q h => ⟨xs, xs[i], q, by simp [h]⟩
  yld := fun i H v H' q y h => ⟨y.1, y.2 xs q⟩
  stop := fun H q => ⟨xs, q, Nat.le_refl _⟩
theorem gives_tup (K : PySem.W.Frag) (a : Addr) (xs : List V) : Gives (Itt K a) (fun H => SqT K H a xs) xs where
  go := fun i H q h => ⟨xs, xs[i], q, by simp [h]⟩
  yld := fun i H v H' q y h => ⟨y.1, y.2 xs q⟩
  stop := fun H q => ⟨xs, q, Nat.le_refl _⟩

/-- a for over what is given, by what holds ahead of each turn -/
theorem for_g {J : It} {Ok : Hp → Prop} {L : List V} {g : TG} {tb : TS} {D : Ends} {σ : St} {H : Hp} (G : Gives J Ok L) (Pv : Nat → St → Hp → Prop) (h0 : Pv 0 σ H) (hk : ∀ i σ H, i ≤ L.length → Pv i σ H → Ok H)
    (hs : ∀ i x σ H, L[i]? = some x → Pv i σ H → g x σ H fun σ2 H2 => tb { D with nx := Pv (i + 1), ct := Pv (i + 1), bk := D.nx } σ2 H2) (hd : ∀ σ H, Pv L.length σ H → D.nx σ H) :
    ∃ W : Nat → Nat → St → Hp → Prop, (∃ m, W 0 m σ H) ∧ ∀ i m σ H, W i m σ H →
      (J.stop i H ∧ D.nx σ H) ∨ (J.go i H ∧ ∃ N : St → Hp → Prop, (∀ σ' H', N σ' H' → ∃ m', m' < m ∧ W (i + 1) m' σ' H') ∧ ∀ x H', J.yld i H x H' → g x σ H' fun σ2 H2 => tb { D with nx := N, ct := N, bk := D.nx } σ2 H2) := by
  refine ⟨fun i m σ H => m = L.length - i ∧ i ≤ L.length ∧ Pv i σ H, ⟨L.length, by simp, Nat.zero_le _, h0⟩, ?_⟩
  rintro i m σ H ⟨rfl, hi, p⟩
  have q := hk i σ H hi p
  by_cases hlt : i < L.length
  · refine .inr ⟨G.go i H q hlt, Pv (i + 1), fun σ' H' p' => ⟨L.length - (i + 1), by omega, rfl, hlt, p'⟩, fun x H' y => ?_⟩
    obtain ⟨e, yy⟩ := G.yld i H x H' q y hlt
    subst e
    exact hs i x σ _ yy p
  · have e : i = L.length := by omega
    subst e
    exact .inl ⟨G.stop H q, hd σ H p⟩
/-- a comprehension over what is given: a turn that keeps, a turn that skips -/
def CNext (D : Addr) (L : List V) (Pv : Nat → List V → St → Hp → Prop) (i : Nat) (σ2 : St) (v : V) (H5 : Hp) : Prop :=
  ∃ ys, H5 D = some (.lst ys) ∧ ys.length < sizeLine ∧ ∃ m', m' < L.length - i ∧ (m' = L.length - (i + 1) ∧ i + 1 ≤ L.length ∧ ∃ xs, Pv (i + 1) xs σ2 (upd H5 D (.lst (ys ++ [v]))))
def CSkip (L : List V) (Pv : Nat → List V → St → Hp → Prop) (i : Nat) (σ2 : St) (H4 : Hp) : Prop :=
  ∃ m', m' < L.length - i ∧ (m' = L.length - (i + 1) ∧ i + 1 ≤ L.length ∧ ∃ xs, Pv (i + 1) xs σ2 H4)
theorem CNext.of {D : Addr} {L : List V} {Pv : Nat → List V → St → Hp → Prop} {i : Nat} {σ2 : St} {v : V} {H5 : Hp} {xs : List V} (hi : i < L.length) (hL : L.length ≤ sizeLine) (h5 : H5 D = some (.lst xs)) (hx : xs.length ≤ i) (p : Pv (i + 1) (xs ++ [v]) σ2 (upd H5 D (.lst (xs ++ [v])))) : CNext D L Pv i σ2 v H5 :=
  ⟨xs, h5, by omega, L.length - (i + 1), by omega, rfl, hi, _, p⟩
theorem CSkip.of {L : List V} {Pv : Nat → List V → St → Hp → Prop} {i : Nat} {σ2 : St} {H4 : Hp} {xs : List V} (hi : i < L.length) (p : Pv (i + 1) xs σ2 H4) : CSkip L Pv i σ2 H4 := ⟨L.length - (i + 1), by omega, rfl, hi, _, p⟩
theorem comp_g {J : It} {Ok : Hp → Prop} {L : List V} {g : TG} {tf : TT} {te : TE} {D : Addr} {σ0 : St} {H1 : Hp} {Q : VK} (G : Gives J Ok L) (Pv : Nat → List V → St → Hp → Prop) (h0 : Pv 0 [] σ0 (upd H1 D (.lst [])))
    (hk : ∀ i xs σ H, i ≤ L.length → Pv i xs σ H → Ok H)
    (hs : ∀ i x xs σ H, i < L.length → L[i]? = some x → Pv i xs σ H → g x σ H fun σ2 H3 => tf σ2 H3 fun b H4 => if b = true then te σ2 H4 fun v H5 => CNext D L Pv i σ2 v H5 else CSkip L Pv i σ2 H4)
    (hd : ∀ xs σ H, Pv L.length xs σ H → Q (.ref D) H) :
    CompW J D σ0 H1 g tf te Q := by
  refine ⟨fun i m σ H => m = L.length - i ∧ i ≤ L.length ∧ ∃ xs, Pv i xs σ H, ⟨L.length, by simp, Nat.zero_le _, [], h0⟩, ?_⟩
  rintro i m σ H ⟨rfl, hi, xs, p⟩
  have q := hk i xs σ H hi p
  by_cases hlt : i < L.length
  · refine .inr ⟨G.go i H q hlt, fun x H' y => ?_⟩
    obtain ⟨e, yy⟩ := G.yld i H x H' q y hlt
    subst e
    exact hs i x xs σ _ hlt yy p
  · have e : i = L.length := by omega
    subst e
    exact .inl ⟨G.stop H q, hd xs σ H p⟩

theorem Same.put {H0 H : Hp} {p : Addr} {o : HO} (s : Same H0 H) (n : H0 p = none) : Same H0 (upd H p o) := fun b u e => by
  rw [upd_ne (ne_of_none e n)]
  exact s b u e
theorem Same.new {H : Hp} {p : Addr} {o : HO} (n : H p = none) : Same H (upd H p o) := (Same.refl H).put n
theorem Same.tup {K : PySem.W.Frag} {H H' : Hp} {a : Addr} {xs : List V} (e : Same H H') (h : SqT K H a xs) : SqT K H' a xs := by
  rcases h with (h | ⟨o, h⟩) | h
  · exact .inl (.inl (e _ _ h))
  · exact .inl (.inr ⟨o, e _ _ h⟩)
  · exact .inr h
theorem take_snoc {α : Type} {l : List α} {i : Nat} {x : α} (h : l[i]? = some x) : l.take (i + 1) = l.take i ++ [x] := by
  rw [List.take_add_one, h]
  rfl
/-- a comprehension whose tests and elements are scalars that hang on the item alone; the heap may grow -/
theorem comp_s {J : It} {Ok : Hp → Prop} {L : List V} {tf : TT} {te : TE} {D : Addr} {σ0 capv : St} {H1 : Hp} {Q : VK} (hσ : σ0 = none :: capv) (G : Gives J Ok L) (hL : L.length ≤ sizeLine) (hD : H1 D = none) (hOk : ∀ H, Same H1 H → Ok H) (p : V → Bool) (F : V → V)
    (ht : ∀ x ∈ L, ∀ H R, Same H1 H → (∀ H', Same H H' → R (p x) H') → tf (some x :: capv) H R)
    (he : ∀ x ∈ L, p x = true → ∀ H R, Same H1 H → (∀ H', Same H H' → R (F x) H') → te (some x :: capv) H R)
    (hd : ∀ H, Same H1 H → H D = some (.lst ((L.filter p).map F)) → Q (.ref D) H) :
    CompW J D σ0 H1 (gName 0) tf te Q := by
  subst hσ
  refine comp_g G (fun i xs σ H => (∃ o, σ = o :: capv) ∧ Same H1 H ∧ H D = some (.lst xs) ∧ xs = ((L.take i).filter p).map F) ⟨⟨none, rfl⟩, Same.new hD, upd_same, by simp⟩ (fun i xs σ H _ h => hOk H h.2.1) ?_ ?_
  · rintro i x xs σ H hi hx ⟨⟨o, rfl⟩, s, e, exs⟩
    have hm : x ∈ L := List.mem_of_getElem? hx
    have hxl : xs.length ≤ i := by
      rw [exs, List.length_map]
      exact Nat.le_trans (List.length_filter_le _ _) (by rw [List.length_take]; omega)
    show tf (some x :: capv) H _
    refine ht x hm H _ s fun H' s' => ?_
    cases hp : p x with
    | true =>
      rw [if_pos rfl]
      refine he x hm hp H' _ (s.trans s') fun H'' s'' => ?_
      have e'' : H'' D = some (.lst xs) := s'' _ _ (s' _ _ e)
      refine CNext.of hi hL e'' hxl ⟨⟨some x, rfl⟩, ((s.trans s').trans s'').put hD, upd_same, ?_⟩
      rw [take_snoc hx, List.filter_append, List.map_append, exs]
      simp [hp]
    | false =>
      rw [if_neg Bool.false_ne_true]
      refine CSkip.of hi ⟨⟨some x, rfl⟩, s.trans s', s' _ _ e, ?_⟩
      rw [take_snoc hx, List.filter_append, List.map_append, exs]
      simp [hp]
  · rintro xs σ H ⟨_, s, e, exs⟩
    refine hd H s ?_
    rw [e, exs, List.take_length]
end L2

namespace L2
open PySem PySem.Spec PyProof.Rows

/-! ## Built-ins over a list or tuple: all, any, max, min, sum, set -/
/-- the walk over a list, behind which all that was there still stands -/
theorem walk_list {P : Program} {w : World} {A : Around} {E : Value → Shared → Prop} {s : Shared} {a : Addr} {its : List Value} {Q : Value → Shared → Prop} (hh : A.handled = none) (hl : s.heap.IsList a its.toArray)
    (h : ∀ (I : Addr) (s2 : Shared), s2 = { s with heap := s.heap.push { cls := .type "list_iterator", data := .fields #[.ref a, .int 0 0] } } → I = s.heap.objs.size →
      Walks P w A I [I, a] [I] its.length (fun i v => its[i]? = some v) (fun i h => h.IsListIter I a i ∧ h.IsList a its.toArray) → (s2.heap.IsListIter I a 0 ∧ s2.heap.IsList a its.toArray) → (∀ b ∈ [I, a], b < s2.heap.objs.size) →
      (∀ h' : Heap, (∀ b o, b ∉ [I] → s2.heap.get? b = some o → h'.get? b = some o) → ∀ b o, s.heap.get? b = some o → h'.get? b = some o) → Q (.ref I) s2) :
    wpAny (model P w) A (pyIter (.ref a)) Q E s := by
  have hlt : a < s.heap.objs.size := by obtain ⟨_, e, _⟩ := hl; exact Heap.lt_size e
  refine wpAny_pyIter_list hl (h _ _ rfl rfl ?_ ⟨⟨_, Heap.get?_push_size _ rfl, rfl, rfl⟩, hl.push _⟩ (fun b hb => ?_) (fun h' k b o e => k b o ?_ (Heap.get?_push_of_some _ e)))
  · have W := Walks.list (prog := P) (w := w) (A := A) hh s.heap.objs.size a (Nat.ne_of_lt hlt) its.toArray
    simpa using W
  · show b < (s.heap.push _).objs.size
    rw [Heap.size_push]
    rcases List.mem_cons.mp hb with rfl | hb
    · exact Nat.lt_succ_self _
    · have e : b = a := by simpa using hb
      subst e
      exact Nat.lt_succ_of_lt hlt
  · intro z
    have e2 : b = s.heap.objs.size := by simpa using z
    subst e2
    exact absurd (Heap.lt_size e) (Nat.lt_irrefl _)
theorem vals_get {xs : List V} {us : List Value} (r : Vals xs us) {i : Nat} {u : Value} (h : us[i]? = some u) : ∃ x, xs[i]? = some x ∧ RelV x u := by
  have hi : i < xs.length := by rw [r.length]; exact (List.getElem?_eq_some_iff.mp h).1
  obtain ⟨u', hu, ru⟩ := r.get (x := xs[i]) (i := i) (by simp [hi])
  rw [h] at hu
  cases hu
  exact ⟨_, by simp [hi], ru⟩
theorem range_all_map (bs : List Bool) : (List.range bs.length).all (fun i => bs.getD i false) = bs.all id := by
  rw [Bool.eq_iff_iff, List.all_eq_true, List.all_eq_true]
  constructor
  · intro h x hx
    obtain ⟨i, hi, e⟩ := List.mem_iff_getElem.mp hx
    have := h i (List.mem_range.mpr hi)
    simp only [List.getD_eq_getElem?_getD, hi, getElem?_pos, Option.getD_some, e] at this
    exact this
  · intro h i hi
    have hi' := List.mem_range.mp hi
    simp only [List.getD_eq_getElem?_getD, hi', getElem?_pos, Option.getD_some]
    exact h _ (List.getElem_mem hi')
theorem range_any_map (bs : List Bool) : (List.range bs.length).any (fun i => bs.getD i false) = bs.any id := by
  rw [Bool.eq_iff_iff, List.any_eq_true, List.any_eq_true]
  constructor
  · rintro ⟨i, hi, h⟩
    have hi' := List.mem_range.mp hi
    simp only [List.getD_eq_getElem?_getD, hi', getElem?_pos, Option.getD_some] at h
    exact ⟨_, List.getElem_mem hi', h⟩
  · rintro ⟨x, hx, h⟩
    obtain ⟨i, hi, e⟩ := List.mem_iff_getElem.mp hx
    refine ⟨i, List.mem_range.mpr hi, ?_⟩
    simp only [List.getD_eq_getElem?_getD, hi, getElem?_pos, Option.getD_some, e]
    exact h
section
variable {X : Cx}
theorem truth_bl {P : Program} {w : World} {A : Around} {bs : List Bool} {its : List Value} (r : Vals (bs.map V.bl) its) : TruthOf P w A (fun i v => its[i]? = some v) (fun i => bs.getD i false) := by
  intro i v s Q E hv q
  obtain ⟨x, hx, rx⟩ := vals_get r hv
  rw [List.getElem?_map] at hx
  cases e : bs[i]? with
  | none => rw [e] at hx; cases hx
  | some b =>
    rw [e] at hx
    cases hx
    cases (show v = Value.bool b from rx)
    refine wpAny_truthy_bool ?_
    have eb : bs.getD i false = b := by rw [List.getD_eq_getElem?_getD, e]; rfl
    rw [← eb]
    exact q
theorem call_all (hc : X.calm = true) : CallR X (.builtin "all") (fun xs H Q => ∃ (a : Addr) (bs : List Bool), xs = [V.ref a] ∧ SqL X.K H a (bs.map V.bl) ∧ Q (.bl (bs.all id)) H) := by
  intro pins s σ H xs us Q I r h
  obtain ⟨a, bs, rfl, hq, q⟩ := h
  obtain ⟨u, rfl, ru⟩ := vals1 r
  cases ru
  obtain ⟨its, rv, p, hz⟩ := I.list hq
  refine call_all_walk (walk_list (A := X.A.in1) (I.ok.hd hc) p.isList fun It s2 e2 eI W st hf old => ?_)
  have hl : bs.length = its.length := by have := rv.length; rwa [List.length_map] at this
  refine ⟨It, _, _, its.length, _, _, _, rfl, W, st, truth_bl rv, fun h' tk k => ?_⟩
  subst e2
  rw [← hl, range_all_map]
  exact ⟨.bl _, H, I.kept (t' := tk) (old h' k), rfl, q⟩
theorem call_any (hc : X.calm = true) : CallR X (.builtin "any") (fun xs H Q => ∃ (a : Addr) (bs : List Bool), xs = [V.ref a] ∧ SqL X.K H a (bs.map V.bl) ∧ Q (.bl (bs.any id)) H) := by
  intro pins s σ H xs us Q I r h
  obtain ⟨a, bs, rfl, hq, q⟩ := h
  obtain ⟨u, rfl, ru⟩ := vals1 r
  cases ru
  obtain ⟨its, rv, p, hz⟩ := I.list hq
  refine call_any_walk (walk_list (A := X.A.in1) (I.ok.hd hc) p.isList fun It s2 e2 eI W st hf old => ?_)
  have hl : bs.length = its.length := by have := rv.length; rwa [List.length_map] at this
  refine ⟨It, _, _, its.length, _, _, _, rfl, W, st, truth_bl rv, fun h' tk k => ?_⟩
  subst e2
  rw [← hl, range_any_map]
  exact ⟨.bl _, H, I.kept (t' := tk) (old h' k), rfl, q⟩
theorem ints_are : ∀ {ns : List Int} {its : List Value}, Vals (ns.map V.int) its → IntsAre its ns
  | [], _, r => by rw [List.map_nil] at r; cases r; exact .nil
  | n :: ns, _, r => by
    rw [List.map_cons] at r
    cases r with
    | cons h t =>
      obtain ⟨tk, e⟩ := (show ∃ t, _ = Value.int n t from h)
      subst e
      exact .cons n tk (ints_are t)
theorem ints_get {ns : List Int} {its : List Value} (r : Vals (ns.map V.int) its) {i : Nat} {v : Value} (h : its[i]? = some v) : ∃ t, v = .int (ns.getD i 0) t := by
  obtain ⟨x, hx, rx⟩ := vals_get r h
  rw [List.getElem?_map] at hx
  cases e : ns[i]? with
  | none => rw [e] at hx; cases hx
  | some n =>
    rw [e] at hx
    cases hx
    have en : ns.getD i 0 = n := by rw [List.getD_eq_getElem?_getD, e]; rfl
    rw [en]
    exact rx
theorem preSum_sum (ns : List Int) : ∀ k, k ≤ ns.length → preSum (fun i => ns.getD i 0) k = (ns.take k).sum
  | 0, _ => rfl
  | k + 1, h => by
    have hk : k < ns.length := by omega
    rw [preSum, preSum_sum ns k (by omega), take_snoc (x := ns[k]) (by simp [hk]), List.sum_append]
    simp [List.getD_eq_getElem?_getD, hk]
theorem call_sum1 (hc : X.calm = true) : CallR X (.builtin "sum") (fun xs H Q => ∃ (a : Addr) (ns : List Int), xs = [V.ref a] ∧ SqL X.K H a (ns.map V.int) ∧ Q (.int ns.sum) H) := by
  intro pins s σ H xs us Q I r h
  obtain ⟨a, ns, rfl, hq, q⟩ := h
  obtain ⟨u, rfl, ru⟩ := vals1 r
  cases ru
  obtain ⟨its, rv, p, hz⟩ := I.list hq
  have hl : ns.length = its.length := by have := rv.length; rwa [List.length_map] at this
  refine call_sum_walkG (walk_list (A := X.A.in1) (I.ok.hd hc) p.isList fun It s2 e2 eI W st hf old => ?_)
  refine ⟨It, _, _, its.length, _, _, (fun i => ns.getD i 0), rfl, W, st, hf, (fun _ _ => ints_get rv), fun h' tk t' k => ?_⟩
  subst e2
  refine ⟨.int _, H, I.kept (t' := tk) (old h' k), ⟨t', rfl⟩, ?_⟩
  rw [← hl, preSum_sum ns _ (Nat.le_refl _), List.take_length]
  exact q
/-- set(xs): as many as there are numbers that differ -/
def many (ns : List Int) : Nat := (firstMet (fun i => ns.getD i 0) ns.length).length
theorem call_set1 (hc : X.calm = true) : CallR X (.type "set") (fun xs H Q => ∃ (a : Addr) (ns : List Int), xs = [V.ref a] ∧ SqL X.K H a (ns.map V.int) ∧ ns.length + 1 < scanBound ∧ ∀ p, H p = none → Q (.ref p) (upd H p (.set (fun k => (firstMet (fun i => ns.getD i 0) ns.length).any (· == k)) (many ns)))) := by
  intro pins s σ H xs us Q I r h
  obtain ⟨a, ns, rfl, hq, hb, q⟩ := h
  obtain ⟨u, rfl, ru⟩ := vals1 r
  cases ru
  obtain ⟨its, rv, p, hz⟩ := I.list hq
  have hl : ns.length = its.length := by have := rv.length; rwa [List.length_map] at this
  have hsz : its.toArray.size = ns.length := by rw [List.size_toArray, hl]
  refine call_set_list (items := its.toArray) (ns := ns) (I.ok.hd hc) p.isList (by simpa using ints_are rv) (by rw [hsz]; exact hb) fun h' tk hS k => ?_
  rw [hsz] at hS
  have I' : Inv X pins σ (upd H s.heap.objs.size (.set (fun k => (firstMet (fun i => ns.getD i 0) ns.length).any (· == k)) (many ns))) { s with heap := h', toks := tk } :=
    I.laid (fun b o e => k b o (Heap.lt_size e) e) (Nat.le_refl _) hS
  exact ⟨.ref _, _, I', rfl, q _ (I.hok.fresh (Nat.le_refl _))⟩
theorem call_lenS : CallR X (.builtin "len") (fun xs H Q => ∃ a S n, xs = [V.ref a] ∧ H a = some (.set S n) ∧ Q (.int n) H) := by
  intro pins s σ H xs us Q I r h
  obtain ⟨a, S, n, rfl, hq, q⟩ := h
  obtain ⟨u, rfl, ru⟩ := vals1 r
  cases ru
  obtain ⟨o, es, ep, t, h1, h2, h3, h4, h5, h6, h7, h8⟩ := (show s.heap.SetOf (intKind X.prog X.w) a S n from I.hok a _ hq)
  have hfit : (es.size : Int) < 2 ^ 63 := by
    have : (es.size : Int) < 4096 := by unfold scanBound at h6; omega
    exact Int.lt_of_lt_of_le this (by decide)
  exact call_len_set h1 h2 h3 h7 hfit ⟨.int n, H, I.tok _, ⟨_, by rw [h8]⟩, q⟩

/-! ## Texts compared; isinstance; slices of texts -/
theorem op_le_str : OpR X (compareOp .LtE) (fun x y H Q => ∃ i j, x = .str i ∧ y = .str j ∧ Q (.bl (!decide (j.cps.toList < i.cps.toList))) H) := by
  intro pins s σ H x y v u Q I rx ry h
  obtain ⟨i, j, rfl, rfl, q⟩ := h
  obtain ⟨t, rfl⟩ := rx
  obtain ⟨t', rfl⟩ := ry
  exact PySem.P.le_str (fin_bl I q rfl)
theorem call_isi {c : Value} {cv : V} (hcv : RelV cv c) (huniq : ∀ u, RelV cv u → u = c) : CallR X (.builtin "isinstance") (fun xs H Q => ∃ x t b, xs = [x, cv] ∧ TyOf X.K H x t ∧ PySem.W.kitOne X.K t c = some b ∧ Q (.bl b) H) := by
  intro pins s σ H xs us Q I r h
  obtain ⟨x, t, b, rfl, ty, e, q⟩ := h
  obtain ⟨u, u', rfl, ru, ru'⟩ := vals2 r
  have := huniq u' ru'
  subst this
  exact isinst_ok I ru ty e fun tk => ⟨.bl b, H, I.tok _, rfl, q⟩
theorem call_isT (T : String) : CallR X (.builtin "isinstance") (fun xs H Q => ∃ x t b, xs = [x, .ty T] ∧ TyOf X.K H x t ∧ PySem.W.kitOne X.K t (.type T) = some b ∧ Q (.bl b) H) := call_isi (c := .type T) (cv := .ty T) rfl fun _ h => h
end
end L2

namespace L2
open PySem PySem.Spec PyProof.Rows

/-! ## Short words -/
section
variable {X : Cx}
/-- a block cut behind its first statement by what holds there -/
def tCut (t u : TS) : TS := fun D σ H => ∃ M : St → Hp → Prop, t { D with nx := M } σ H ∧ ∀ σ' H', M σ' H' → u D σ' H'
theorem pss_cut {st : Stmt} {rest : List Stmt} {t u : TS} (h1 : PS X st t) (h2 : PSs X rest u) : PSs X (st :: rest) (tCut t u) := by
  intro pins s σ H D I h
  obtain ⟨M, h, hM⟩ := h
  refine wpAny_execs_cons (thn (h1 pins s σ H { D with nx := M } I h) fun f s1 q => ?_)
  cases f with
  | next =>
    obtain ⟨σ', H', I', q⟩ := q
    exact h2 pins s1 σ' H' D I' (hM σ' H' q)
  | ret v => exact q
  | brk => exact q
  | cont => exact q
theorem nd_comp {scope : Scope} {N : List Str} {cl : List (Str × Addr)} {C : Addr} {s : Shared} {H : Hp} {fp : List Addr} {pn : List (Addr × Obj)} (h : N.Nodup) : (cxComp X scope N cl C s H fp pn).N.Nodup := h
theorem pe_gint {x : Str} {i : Int} {pos : Pos} (hg : Gl X x) (hm : ∃ t, X.mg x = some (.int i t)) (hd : (x == ("__debug__" : Str)) = false := by decide) : PE X (.Name x pos) (tC (.int i)) := by
  obtain ⟨t, hm⟩ := hm
  exact pe_glob hg hm ⟨t, rfl⟩ hd
end
/-- a def of the top that keeps its promise -/
structure Callee (P : Program) (w : World) (K : PySem.W.Frag) (mg : Str → Option Value) (base : Heap) (x : Str) (k : Nat) (ps : List Str) (sp : Sp) : Prop where
  ex : ∃ f fd, FnOk P w K mg base CX0 k f fd ps sp ∧ mg x = some (.ref f) ∧ PySem.W.keepIn K (.ref f) = true ∧ Binds K fd ps [] ∧ ∃ o, K.lookup f = some o ∧ o.data = .func fd
/-- a def as the top has left it -/
structure DefAt (K : PySem.W.Frag) (mg : Str → Option Value) (x : Str) (st : Stmt) : Prop where
  ex : ∃ f fd, Fun K x x st f fd ∧ mg x = some (.ref f)
theorem def_mk {K : PySem.W.Frag} {mg : Str → Option Value} {h : Heap} {x : Str} {st : Stmt} {f : Addr} {oc : Value} {od an : Option Addr} {osl : Array (Option Value)} {kV doc pm cdv ct : Value} (X : K.In h) (G : h.Ns mainGlobals mg)
    (a : PySem.W.nsIn K mainGlobals x = some (some (.ref f)))
    (l : K.lookup f = some ⟨oc, od, .func (PySem.W.fnOf x x (defArgs st) (defBody st) (defScope st) .none kV doc pm an cdv ct), osl⟩)
    (c : PySem.W.codeIn K cdv x = true) (k : PySem.W.keepIn K (.ref f) = true) : DefAt K mg x st := ⟨f, _, fun_mk l c k, PySem.W.mg_of X G a⟩
theorem int_mk {K : PySem.W.Frag} {mg : Str → Option Value} {h : Heap} {x : Str} {i : Int} {t : Tok} (X : K.In h) (G : h.Ns mainGlobals mg) (a : PySem.W.nsIn K mainGlobals x = some (some (.int i t))) : ∃ t, mg x = some (.int i t) := ⟨t, PySem.W.mg_of X G a⟩
section
variable {P : Program} {w : World} {K : PySem.W.Frag} {mg : Str → Option Value} {base : Heap}
theorem DefAt.callee {x : Str} {st : Stmt} {N ps : List Str} {k : Nat} {sp : Sp} (D : DefAt K mg x st) (S : FnScope N ps (defScope st))
    (hb : ∀ (kV doc pm : Value) (an : Option Addr) (cdv ct : Value) (us : List Value), us.length = ps.length → bindArgs (PySem.W.fnOf x x (defArgs st) (defBody st) (defScope st) .none kV doc pm an cdv ct) ⟨us, []⟩ = pure (ps.zip us))
    (len : ∀ vs H Q E, sp vs H Q E → vs.length = ps.length)
    (hbody : ∀ (f : Addr) (cdv : Value) (A : Around) (outer : List Env) (s : Shared) (H : Hp) (vs : List V) (Q : VK) (E : XK), Room k (A.deeper (envOfC x (defScope st) s.heap.objs.size f cdv)) → sp vs H Q E →
      ∃ t, PSs (cxOf CX0 P w K mg base N x (defScope st) f cdv A outer s H E).nox (defBody st) t ∧ t { nx := fun _ H' => Q .non H', rt := Q } (start N vs) H) : Callee P w K mg base x (k + 1) ps sp := by
  obtain ⟨f, fd, F, m⟩ := D.ex
  obtain ⟨oc, od, kV, doc, pm, an, cdv, ct, osl, e, lk, hcd⟩ := id F.ex
  exact ⟨f, fd, F.ok S len (fun cdv A outer s H vs Q E hr h => hbody f cdv A outer s H vs Q E hr h), m, F.kp, F.binds hb, _, lk, rfl⟩
end
section
variable {X : Cx} {x : Str} {k : Nat} {ps : List Str} {sp : Sp} {p pos : Pos} {e : Expr} {es : List Expr} {t : TA}
/-- f(e, ..) of a def that keeps its promise -/
theorem pe_fn (C : Callee X.prog X.w X.K X.mg X.base x k ps sp) (hr : Room k X.A) (hg : Gl X x) (ha : PA X (e :: es) t) (hdb : (x == ("__debug__" : Str)) = false := by decide)
    (he : starEach (e :: es) X.env = (false, eval e X.env) :: starEach es X.env := by rfl) (hpl : (backTo pos (starEach es X.env)).any (·.1) = false := by rfl) : PE X (.Call (.Name x p) (e :: es) [] pos) (tCall sp [] E0 t) := by
  obtain ⟨f, fd, F, hm, hk, hb, _⟩ := C.ex
  exact pe_call F hr hg hm hk hb .nil pass0 ha hdb he hpl
end
/-- Python's own names, none of them given another meaning at the top -/
structure Bn (mg : Str → Option Value) : Prop where
  n_len : mg "len" = none
  n_all : mg "all" = none
  n_any : mg "any" = none
  n_max : mg "max" = none
  n_min : mg "min" = none
  n_sum : mg "sum" = none
  n_sorted : mg "sorted" = none
  n_isinstance : mg "isinstance" = none
  n_int : mg "int" = none
  n_bool : mg "bool" = none
  n_str : mg "str" = none
  n_list : mg "list" = none
  n_tuple : mg "tuple" = none
  n_dict : mg "dict" = none
  n_set : mg "set" = none
  n_range : mg "range" = none
  n_reversed : mg "reversed" = none
  n_repr : mg "repr" = none
  n_abs : mg "abs" = none
  n_enumerate : mg "enumerate" = none
  n_zip : mg "zip" = none
theorem bn_mk {K : PySem.W.Frag} {mg : Str → Option Value} {h : Heap} (X : K.In h) (G : h.Ns mainGlobals mg)
    (a_len : PySem.W.nsIn K mainGlobals "len" = some none)
    (a_all : PySem.W.nsIn K mainGlobals "all" = some none)
    (a_any : PySem.W.nsIn K mainGlobals "any" = some none)
    (a_max : PySem.W.nsIn K mainGlobals "max" = some none)
    (a_min : PySem.W.nsIn K mainGlobals "min" = some none)
    (a_sum : PySem.W.nsIn K mainGlobals "sum" = some none)
    (a_sorted : PySem.W.nsIn K mainGlobals "sorted" = some none)
    (a_isinstance : PySem.W.nsIn K mainGlobals "isinstance" = some none)
    (a_int : PySem.W.nsIn K mainGlobals "int" = some none)
    (a_bool : PySem.W.nsIn K mainGlobals "bool" = some none)
    (a_str : PySem.W.nsIn K mainGlobals "str" = some none)
    (a_list : PySem.W.nsIn K mainGlobals "list" = some none)
    (a_tuple : PySem.W.nsIn K mainGlobals "tuple" = some none)
    (a_dict : PySem.W.nsIn K mainGlobals "dict" = some none)
    (a_set : PySem.W.nsIn K mainGlobals "set" = some none)
    (a_range : PySem.W.nsIn K mainGlobals "range" = some none)
    (a_reversed : PySem.W.nsIn K mainGlobals "reversed" = some none)
    (a_repr : PySem.W.nsIn K mainGlobals "repr" = some none)
    (a_abs : PySem.W.nsIn K mainGlobals "abs" = some none)
    (a_enumerate : PySem.W.nsIn K mainGlobals "enumerate" = some none)
    (a_zip : PySem.W.nsIn K mainGlobals "zip" = some none)
    : Bn mg := ⟨PySem.W.mg_none_of X G a_len, PySem.W.mg_none_of X G a_all, PySem.W.mg_none_of X G a_any, PySem.W.mg_none_of X G a_max, PySem.W.mg_none_of X G a_min, PySem.W.mg_none_of X G a_sum, PySem.W.mg_none_of X G a_sorted, PySem.W.mg_none_of X G a_isinstance, PySem.W.mg_none_of X G a_int, PySem.W.mg_none_of X G a_bool, PySem.W.mg_none_of X G a_str, PySem.W.mg_none_of X G a_list, PySem.W.mg_none_of X G a_tuple, PySem.W.mg_none_of X G a_dict, PySem.W.mg_none_of X G a_set, PySem.W.mg_none_of X G a_range, PySem.W.mg_none_of X G a_reversed, PySem.W.mg_none_of X G a_repr, PySem.W.mg_none_of X G a_abs, PySem.W.mg_none_of X G a_enumerate, PySem.W.mg_none_of X G a_zip⟩
/-- the law's own def, for the head -/
theorem DefAt.entry {P : Program} {w : World} {K : PySem.W.Frag} {mg : Str → Option Value} {x p : Str} {st : Stmt} {k : Nat} {sp : Sp} {fa : Addr} (D : DefAt K mg x st) (hfa : mg x = some (.ref fa))
    (hb : ∀ (kV doc pm : Value) (an : Option Addr) (cdv ct v : Value), bindArgs (PySem.W.fnOf x x (defArgs st) (defBody st) (defScope st) .none kV doc pm an cdv ct) ⟨[v], []⟩ = pure [(p, v)])
    (C : ∀ base : Heap, Callee P w K mg base x k [p] sp) :
    ∃ fd : FuncData, (∀ (s : Shared) (v : Value), BindsTo s fd ⟨[v], []⟩ [(p, v)]) ∧ ∀ base : Heap, K.In base → base.Ns mainGlobals mg → FnOk P w K mg base CX0 k fa fd [p] sp := by
  obtain ⟨f, fd, F, m⟩ := D.ex
  rw [m] at hfa
  cases hfa
  obtain ⟨oc, od, kV, doc, pm, an, cdv, ct, osl, rfl, lk, hcd⟩ := F.ex
  refine ⟨_, fun s v => .of_eq (hb kV doc pm an cdv ct v), fun base _ _ => ?_⟩
  obtain ⟨f', fd', G, m', _, _, o, lo, ed⟩ := (C base).ex
  rw [m] at m'
  cases m'
  rw [lk] at lo
  cases lo
  cases ed
  exact G
end L2

namespace L2
open PySem PySem.Spec PyProof.Rows

/-! ## An exception on its way: its object has a traceback and no context; B is what stays as it is -/
structure Fly (B : Heap) (l : List Env) (x : Addr) (c fl : Value) (h : Heap) : Prop where
  stay : B.StaysIn h
  new : B.get? x = none
  frs : h.FunFrames B l
  obj : ∃ (oe : Obj) (vs : Array Value) (T : Addr) (oT : Obj) (ts : Array Value), h.get? x = some oe ∧ (oe.cls = c ∧ oe.dict = none) ∧ oe.data = .fields vs ∧ vs[1]? = some (.ref T) ∧ vs[2]? = some .none ∧ B.get? T = none ∧ T ≠ x ∧ h.get? T = some oT ∧ oT.data = .fields ts ∧ ts[3]? = some fl
/-- just made: no traceback yet -/
structure Fresh (B : Heap) (l : List Env) (x : Addr) (c : Value) (h : Heap) : Prop where
  stay : B.StaysIn h
  new : B.get? x = none
  frs : h.FunFrames B l
  obj : ∃ (oe : Obj) (vs : Array Value), h.get? x = some oe ∧ (oe.cls = c ∧ oe.dict = none) ∧ oe.data = .fields vs ∧ vs[1]? = some .none ∧ vs[2]? = some .none
section
variable {M : Model} {A : Around} {E : Value → Shared → Prop} {s : Shared} {B : Heap} {l outer : List Env} {env : Env} {x L : Addr} {c : Value}
theorem dict_mapFields (o : Obj) (f : Array Value → Array Value) : (o.mapFields f).dict = o.dict := by
  unfold Obj.mapFields
  split <;> rfl
theorem setFields_get {h : Heap} {a b : Addr} {o : Obj} {vs : Array Value} {f : Array Value → Array Value} (ha : h.get? a = some o) (hd : o.data = .fields vs) :
    (h.update a (Obj.mapFields f)).get? a = some (o.mapFields f) ∧ (b ≠ a → (h.update a (Obj.mapFields f)).get? b = h.get? b) :=
  ⟨Heap.get?_update_self _ ha (Obj.isFreed_of_fields (Obj.data_mapFields hd f)), fun hb => Heap.get?_update_other _ _ (Ne.symm hb)⟩
/-- a row of the traceback -/
theorem fly_entry {oe : Obj} {vs : Array Value} {head : Value} {hadNext : Bool} {Q : Unit → Shared → Prop} (hfr : A.frames = some (env :: outer)) (hl : s.heap.FunFrames B (env :: outer)) (hf : env.frame = some L)
    (st : B.StaysIn s.heap) (nx : B.get? x = none) (hx : s.heap.get? x = some oe) (hc : oe.cls = c ∧ oe.dict = none) (hd : oe.data = .fields vs) (h2 : vs[2]? = some .none)
    (k : ∀ h', Fly B (env :: outer) x c (rawInt L) h' → s.heap.UpToSlots h' → Q () { s with heap := h' }) :
    wpAny M A (do let a ← frameOf env; let pl ← entryPlaceOf L hadNext; let b ← EntryCells.newEntry head a .none (rawInt L) .none pl; setField (.ref x) 1 b) Q E s := by
  have hsz : 2 < vs.size := (Array.getElem?_eq_some_iff.mp h2).1
  have xnf : x ∉ (env :: outer).filterMap (·.frame) := fun hm => by
    obtain ⟨_, o, ho, hno⟩ := hl.mem hm
    rw [hx] at ho
    cases ho
    exact hno vs hd
  refine wpAny_bind (wpAny_frameOf_fun hfr hl hf fun g1 so => wpAny_bind (wpAny_entryPlaceOf fun pl hpl => ?_))
  unfold EntryCells.newEntry newFields
  refine wpAny_bind (wpAny_newObj_type ?_ (hpl.sizeOk5 _ _ _ _ _))
  have hx1 : g1.get? x = some oe := (so.2.1 x xnf).trans hx
  have st1 : B.StaysIn g1 := fun b o hb => by
    refine (so.2.1 b fun hm => ?_).trans (st b o hb)
    have := (hl.mem hm).1
    rw [hb] at this
    cases this
  have big : x < g1.objs.size := Heap.lt_size hx1
  generalize hnew : ({ cls := .type "traceback", dict := none, data := .fields ([head, .ref L, .none, rawInt L, .none] ++ (if pl.isEmpty then List.replicate 6 Value.none else pl)).toArray } : Obj) = tb
  have hx2 : (g1.push tb).get? x = some oe := Heap.get?_push_of_some tb hx1
  refine wpAny_setField hx2 hd (by omega) (k _ ?_ ?_)
  · have tx : g1.objs.size ≠ x := Nat.ne_of_gt big
    obtain ⟨e1, e2⟩ := setFields_get (b := g1.objs.size) (f := fun a => a.setIfInBounds 1 (Value.ref g1.objs.size)) hx2 hd
    have hT : (g1.push tb).get? g1.objs.size = some tb := Heap.get?_push_size g1 (by rw [← hnew]; rfl)
    refine ⟨fun b o hb => ?_, nx, hl.of_keeps fun b o hb hno => ?_, _, _, g1.objs.size, tb, _, e1, ⟨(Obj.cls_mapFields _ _).trans hc.1, (dict_mapFields _ _).trans hc.2⟩, Obj.data_mapFields hd _, (by show (vs.setIfInBounds 1 (Value.ref g1.objs.size))[1]? = _; simp [show 1 < vs.size by omega]), ?_, st1.fresh, tx, (e2 tx).trans hT, by rw [← hnew], ?_⟩
    · obtain ⟨_, e3⟩ := setFields_get (b := b) (f := fun a => a.setIfInBounds 1 (Value.ref g1.objs.size)) hx2 hd
      refine (e3 fun z => ?_).trans (Heap.get?_push_of_some tb (st1 b o hb))
      rw [z, nx] at hb
      cases hb
    · have bx : b ≠ x := fun z => by
        rw [z, hx] at hb
        cases hb
        exact hno vs hd
      obtain ⟨sl, hs⟩ := so.2.2 b o hb
      obtain ⟨_, e3⟩ := setFields_get (b := b) (f := fun a => a.setIfInBounds 1 (Value.ref g1.objs.size)) hx2 hd
      exact ⟨_, (e3 bx).trans (Heap.get?_push_of_some tb hs), rfl⟩
    · rw [Array.getElem?_setIfInBounds_ne (by decide)]
      exact h2
    · rcases hpl with rfl | ⟨_, _, _, _, _, _, _, rfl⟩ <;> rfl
  · intro b o hb hno
    have bx : b ≠ x := fun z => by
      rw [z, hx] at hb
      cases hb
      exact hno vs hd
    obtain ⟨sl, hs⟩ := so.2.2 b o hb
    obtain ⟨_, e3⟩ := setFields_get (b := b) (f := fun a => a.setIfInBounds 1 (Value.ref g1.objs.size)) hx2 hd
    exact ⟨sl, (e3 bx).trans (Heap.get?_push_of_some tb hs)⟩
/-- the mark of where it flies is taken off -/
theorem fly_land {fl : Value} {Q : Unit → Shared → Prop} (F : Fly B l x c fl s.heap) (k : ∀ h', Fly B l x c .none h' → s.heap.UpToSlots h' → Q () { s with heap := h' }) : wpAny M A (setFlight (.ref x) none) Q E s := by
  obtain ⟨oe, vs, T, oT, ts, hx, hc, hd, h1, h2, nT, tx, hT, dT, h3⟩ := F.obj
  have hsz : 3 < ts.size := (Array.getElem?_eq_some_iff.mp h3).1
  unfold setFlight
  refine wpAny_bind (wpAny_field hx hd h1 ?_)
  rw [if_pos (by simp)]
  refine wpAny_setField hT dT hsz (k _ ?_ ?_)
  · have e : ∀ b, b ≠ T → (s.heap.update T (Obj.mapFields (·.setIfInBounds 3 ((none : Option Addr).elim Value.none fun f => rawInt f)))).get? b = s.heap.get? b := fun b hb => (setFields_get hT dT).2 hb
    refine ⟨fun b o hb => (e b fun z => ?_).trans (F.stay b o hb), F.new, F.frs.of_keeps fun b o hb hno => ⟨o, (e b fun z => ?_).trans hb, rfl⟩, oe, vs, T, _, _, (e x (Ne.symm tx)).trans hx, hc, hd, h1, h2, nT, tx, (setFields_get (b := T) hT dT).1, Obj.data_mapFields dT _, by simp [hsz]⟩
    · rw [z, nT] at hb; cases hb
    · rw [z, hT] at hb; cases hb; exact hno ts dT
  · intro b o hb hno
    refine ⟨o.slots, ((setFields_get hT dT).2 fun z => ?_).trans hb⟩
    rw [z, hT] at hb; cases hb; exact hno ts dT
/-- the frame is noted -/
theorem fly_note {Q : Unit → Shared → Prop} (hfr : A.frames = some (env :: outer)) (hf : env.frame = some L) (F : Fly B (env :: outer) x c .none s.heap)
    (k : ∀ h', Fly B (env :: outer) x c (rawInt L) h' → s.heap.UpToSlots h' → Q () { s with heap := h' }) : wpAny M A (noteFrame (.ref x) env) Q E s := by
  obtain ⟨oe, vs, T, oT, ts, hx, hc, hd, h1, h2, nT, tx, hT, dT, h3⟩ := F.obj
  have hsz : 3 < ts.size := (Array.getElem?_eq_some_iff.mp h3).1
  unfold noteFrame
  simp only [hf]
  refine wpAny_bind (wpAny_field hx hd h1 ?_)
  rw [if_pos (by simp)]
  refine wpAny_bind (wpAny_field hT dT h3 ?_)
  rw [if_neg (by simp [rawInt])]
  refine wpAny_bind (wpAny_setField hT dT hsz ?_)
  have e : ∀ b, b ≠ T → (s.heap.update T (Obj.mapFields (·.setIfInBounds 3 Value.none))).get? b = s.heap.get? b := fun b hb => (setFields_get hT dT).2 hb
  have nf : ∀ b o, s.heap.get? b = some o → (∀ vs, o.data ≠ .fields vs) → b ≠ T := fun b o hb hno z => by
    rw [z, hT] at hb; cases hb; exact hno ts dT
  refine fly_entry hfr (F.frs.of_keeps fun b o hb hno => ⟨o, (e b (nf b o hb hno)).trans hb, rfl⟩) hf (fun b o hb => (e b fun z => ?_).trans (F.stay b o hb)) F.new ((e x (Ne.symm tx)).trans hx) hc hd h2 fun h' F' u => k h' F' fun b o hb hno => ?_
  · rw [z, nT] at hb; cases hb
  · exact u b o ((e b (nf b o hb hno)).trans hb) hno
theorem fresh_note {Q : Unit → Shared → Prop} (hfr : A.frames = some (env :: outer)) (hf : env.frame = some L) (F : Fresh B (env :: outer) x c s.heap)
    (k : ∀ h', Fly B (env :: outer) x c (rawInt L) h' → s.heap.UpToSlots h' → Q () { s with heap := h' }) : wpAny M A (noteFrame (.ref x) env) Q E s := by
  obtain ⟨oe, vs, hx, hc, hd, h1, h2⟩ := F.obj
  unfold noteFrame
  simp only [hf]
  refine wpAny_bind (wpAny_field hx hd h1 ?_)
  rw [if_neg (by decide)]
  exact fly_entry hfr F.frs hf F.stay F.new hx hc hd h2 k
theorem Fly.tail {fl : Value} {h : Heap} (F : Fly B (env :: outer) x c fl h) : Fly B outer x c fl h := ⟨F.stay, F.new, F.frs.2.2, F.obj⟩
/-- out of a frame -/
theorem fly_leave {Q : Unit → Shared → Prop} (hfr : A.frames = some (env :: outer)) (hf : env.frame = some L) (F : Fly B (env :: outer) x c .none s.heap)
    (k : ∀ h', Fly B outer x c .none h' → s.heap.UpToSlots h' → Q () { s with heap := h' }) : wpAny M A (leaving env (.ref x)) Q E s := by
  unfold leaving
  exact wpAny_bind (fly_note hfr hf F fun h1 F1 u1 => fly_land (s := { s with heap := h1 }) F1 fun h2 F2 u2 => k h2 F2.tail (u1.trans u2))
theorem fresh_leave {Q : Unit → Shared → Prop} (hfr : A.frames = some (env :: outer)) (hf : env.frame = some L) (F : Fresh B (env :: outer) x c s.heap)
    (k : ∀ h', Fly B outer x c .none h' → s.heap.UpToSlots h' → Q () { s with heap := h' }) : wpAny M A (leaving env (.ref x)) Q E s := by
  unfold leaving
  exact wpAny_bind (fresh_note hfr hf F fun h1 F1 u1 => fly_land (s := { s with heap := h1 }) F1 fun h2 F2 u2 => k h2 F2.tail (u1.trans u2))
end
end L2
namespace L2
open PySem PySem.Spec PyProof.Rows
section
variable {P : Program} {w : World}
theorem ObjOk.there {H : Hp} {h : Heap} {a : Addr} {o : HO} (x : ObjOk P w H h a o) : ∃ ob, h.get? a = some ob := by
  cases o with
  | lst xs => obtain ⟨_, _, _, _, e⟩ := x; exact ⟨_, e⟩
  | tup xs => obtain ⟨_, _, _, o, e, _⟩ := x; exact ⟨o, e⟩
  | dK kvs => obtain ⟨_, _, _, _, o, _, _, e, _⟩ := x; exact ⟨o, e⟩
  | dT kvs => obtain ⟨_, _, _, _, o, _, _, e, _⟩ := x; exact ⟨o, e⟩
  | set S n => obtain ⟨o, _, _, _, e, _⟩ := x; exact ⟨o, e⟩
  | ins C dx fs => obtain ⟨_, _, _, e, _⟩ := x; exact ⟨_, e⟩
  | own y => exact x
  | xd fs => obtain ⟨_, ⟨o, _, _, e, _⟩, _⟩ := x; exact ⟨o, e⟩
  | rng lo hi => obtain ⟨_, _, _, e⟩ := x; exact ⟨_, e⟩
  | frz ob u => obtain ⟨e, _⟩ := x; exact ⟨_, e⟩
  | tbl ps => exact ⟨_, (show h.get? a = some _ from x)⟩
  | met f y => exact ⟨_, (show h.get? a = some _ from x)⟩
  | ext φ => obtain ⟨_, e, _⟩ := x; exact e
/-- how an exception lies behind a call: on its way through the callers' frames; what is tracked, and what was there at the call, stays -/
def CX1 (P : Program) (w : World) : CXT := fun outer H s E e s' => ∃ (x : Addr) (c : Value) (B : Heap) (H' : Hp), e = .ref x ∧ Fly B outer x c .none s'.heap ∧ s'.os = s.os ∧ AllBare s'.gens ∧ Un (frs outer) [] H H' s.heap s'.heap ∧ HOk P w H' s'.heap ∧ H' x = none ∧
  (∀ b o, H' b = some o → ∃ ob, B.get? b = some ob) ∧ (∀ b o, s.heap.get? b = some o → b ∉ frs outer → ∃ ob, B.get? b = some ob) ∧ E c none H'
theorem fly_hok {B h h' : Heap} {H : Hp} (ok : HOk P w H h) (st : B.StaysIn h) (st' : B.StaysIn h') (inB : ∀ b o, H b = some o → ∃ ob, B.get? b = some ob) : HOk P w H h' := fun a o e => by
  refine (ok a o e).stay (fun b u hb q => ?_) (fun _ q => q) fun _ _ q => q
  have ⟨ob, hB⟩ : ∃ ob, B.get? b = some ob := by
    rcases hb with z | z
    · rw [z]; exact inB a o e
    · exact inB b _ z
  have := st b ob hB
  rw [q] at this
  cases this
  exact st' b _ hB
theorem fly_un {B h0 h h' : Heap} {fs : List Addr} {H H' : Hp} (u : Un fs [] H H' h0 h) (st : B.StaysIn h) (st' : B.StaysIn h') (up : h.UpToSlots h') (inB : ∀ b o, h0.get? b = some o → b ∉ fs → ∃ ob, B.get? b = some ob)
    (hfs : ∀ b ∈ fs, ∀ o, h.get? b = some o → ∀ vs, o.data ≠ .fields vs) : Un fs [] H H' h0 h' where
  keep := fun b o e n hb hx => by
    obtain ⟨ob, hB⟩ := inB b o e hb
    have q := u.keep b o e n hb hx
    have := st b ob hB
    rw [q] at this
    cases this
    exact st' b _ hB
  slot := fun b o e n hb hx => by
    obtain ⟨sl, q⟩ := u.slot b o e n hb hx
    obtain ⟨sl', q'⟩ := up b _ q (hfs b hb _ q)
    exact ⟨sl', q'⟩
  free := u.free
  there := fun b o e hx => by
    by_cases hb : b ∈ fs
    · obtain ⟨o', q⟩ := u.there b o e hx
      obtain ⟨sl, q'⟩ := up b o' q (hfs b hb o' q)
      exact ⟨_, q'⟩
    · obtain ⟨ob, hB⟩ := inB b o e hb
      exact ⟨ob, st' b ob hB⟩
  tups := u.tups
  frzs := u.frzs
  tbls := u.tbls
theorem fly_data {B h : Heap} {l : List Env} (f : h.FunFrames B l) : ∀ b ∈ frs l, ∀ o, h.get? b = some o → ∀ vs, o.data ≠ .fields vs := fun b hb o e vs => by
  obtain ⟨_, o', e', hno⟩ := f.mem hb
  rw [e] at e'
  cases e'
  exact hno vs
/-- what happened in a body, then in a callee: seen from the body's entry -/
theorem un_through {X : Cx} {pins : List (Addr × Obj)} {σ : St} {H H' : Hp} {s : Shared} {h' : Heap} (I : Inv X pins σ H s) (hex : X.ex = []) (u : Un (frs X.stack) [] H H' s.heap h') : Un X.fs [] X.H₀ H' X.s₀.heap h' := by
  have nl : ∀ b o, X.s₀.heap.get? b = some o → b ≠ X.env.locals := fun b o e => Nat.ne_of_lt (Nat.lt_of_lt_of_le (Heap.lt_size e) I.ok.above)
  have nst : ∀ b o, X.s₀.heap.get? b = some o → b ∉ X.fs → b ∉ frs X.stack := fun b o e hb z => (List.mem_cons.mp (I.stkSub b z)).elim (nl b o e) hb
  have B := I.base
  rw [hex] at B
  refine ⟨fun b o e n hb hx => u.keep b o (B.keep b o e n hb hx) (B.free b o e n hx) (nst b o e hb) hx, fun b o e n hb hx => ?_, fun b o e n hx => ?_, fun b o e hx => ?_, fun b xs e => u.tups b xs (B.tups b xs e), fun b o v e => u.frzs b o v (B.frzs b o v e), fun b ps e => ?_⟩
  · obtain ⟨sl, e1⟩ := B.slot b o e n hb hx
    obtain ⟨sl', e2⟩ := u.any e1 (B.free b o e n hx) hx
    exact ⟨sl', e2⟩
  · obtain ⟨o', e1⟩ := B.there b o e hx
    exact u.free b o' e1 (B.free b o e n hx) hx
  · obtain ⟨o', e1⟩ := B.there b o e hx
    exact u.there b o' e1 hx
  · obtain ⟨m1, e1⟩ := B.tbls b ps e
    obtain ⟨m2, e2⟩ := u.tbls b _ e1
    exact ⟨m1 ++ m2, by rw [e2, Array.append_assoc]⟩
/-- an exception of a callee passes this def's frame -/
theorem pass1 {K : PySem.W.Frag} {mg : Str → Option Value} {base : Heap} {N : List Str} {qual : Str} {scope : Scope} {f : Addr} {cd : Value} {A : Around} {outer : List Env} {s₀ : Shared} {H₀ : Hp} {E : XK} :
    Passes (CX1 P w) (cxOf (CX1 P w) P w K mg base N qual scope f cd A outer s₀ H₀ E) E := by
  intro pins σ H s e s' I h
  obtain ⟨x, c, B, H', rfl, F, ho, hg, u, ok, nx, inB, old, q⟩ := h
  have hfr : (A.deeper (envOfC qual scope s₀.heap.objs.size f cd)).frames = some (envOfC qual scope s₀.heap.objs.size f cd :: outer) := I.ok.frames
  have ut : Un (frs outer) [] H₀ H' s₀.heap s'.heap := un_through I rfl u
  have old' : ∀ b o, s₀.heap.get? b = some o → b ∉ frs outer → ∃ ob, B.get? b = some ob := fun b o e hb => by
    obtain ⟨o', e1⟩ := I.base.there b o e (by show b ∉ ([] : List Addr); simp)
    refine old b o' e1 fun z => ?_
    rcases List.mem_cons.mp (I.stkSub b z) with z | z
    · exact absurd (Nat.lt_of_lt_of_le (Heap.lt_size e) I.ok.above) (by rw [z]; exact Nat.lt_irrefl _)
    · exact hb z
  show wpAny (model P w) _ (leaving _ (.ref x)) _ _ s'
  refine fly_leave hfr rfl F fun h' F' up => ⟨x, c, B, H', rfl, F', (show s'.os = s₀.os from ho.trans I.os), hg, fly_un ut F.stay F'.stay up old' (fly_data F.tail.frs), fly_hok ok F.stay F'.stay inB, nx, inB, old', q⟩
/-- a callee that raises nothing that is wanted -/
theorem pass_no {X : Cx} {E : XK} (hE : ∀ c d H, ¬ E c d H) : Passes (CX1 P w) X E := fun _ _ _ _ _ _ _ h => by
  obtain ⟨_, _, _, _, _, _, _, _, _, _, _, _, _, q⟩ := h
  exact (hE _ _ _ q).elim
theorem pass_E0 {X : Cx} : Passes (CX1 P w) X E0 := pass_no fun _ _ _ h => h
/-- an exception just made, out of this def's frame -/
theorem raise_out {K : PySem.W.Frag} {mg : Str → Option Value} {base : Heap} {N : List Str} {qual : Str} {scope : Scope} {f : Addr} {cd : Value} {A : Around} {outer : List Env} {s₀ : Shared} {H₀ : Hp} {E : XK} {pins : List (Addr × Obj)} {σ : St} {H : Hp} {s s' : Shared} {x : Addr} {c : Value} {args : List Value}
    (I : Inv (cxOf (CX1 P w) P w K mg base N qual scope f cd A outer s₀ H₀ E) pins σ H s) (hx : Heap.MadeExcOf s.heap s'.heap x c args) (ho : s'.os = s.os) (hg : AllBare s'.gens) (q : E c none H) :
    (cxOf (CX1 P w) P w K mg base N qual scope f cd A outer s₀ H₀ E).xe (.ref x) s' := by
  have hfr : (A.deeper (envOfC qual scope s₀.heap.objs.size f cd)).frames = some (envOfC qual scope s₀.heap.objs.size f cd :: outer) := I.ok.frames
  have hin : ∀ env ∈ envOfC qual scope s₀.heap.objs.size f cd :: outer, ∀ a, env.frame = some a → a ∈ frs (envOfC qual scope s₀.heap.objs.size f cd :: outer) := fun env he a ha => List.mem_filterMap.mpr ⟨env, he, ha⟩
  have st : (PySem.W.hideAll s.heap (frs (envOfC qual scope s₀.heap.objs.size f cd :: outer))).StaysIn s'.heap := fun b o e => hx.keeps b o (PySem.W.of_hideAll _ e)
  have nx : (PySem.W.hideAll s.heap (frs (envOfC qual scope s₀.heap.objs.size f cd :: outer))).get? x = none := by
    cases e : (PySem.W.hideAll s.heap (frs (envOfC qual scope s₀.heap.objs.size f cd :: outer))).get? x with
    | none => rfl
    | some o =>
      have := PySem.W.of_hideAll _ e
      rw [hx.new] at this
      cases this
  have fr0 : s.heap.FunFrames (PySem.W.hideAll s.heap (frs (envOfC qual scope s₀.heap.objs.size f cd :: outer))) (envOfC qual scope s₀.heap.objs.size f cd :: outer) := PySem.W.funFrames_hide I.stack hin
  obtain ⟨t, hobj, _, _⟩ := hx.there
  have F : Fresh (PySem.W.hideAll s.heap (frs (envOfC qual scope s₀.heap.objs.size f cd :: outer))) (envOfC qual scope s₀.heap.objs.size f cd :: outer) x c s'.heap :=
    ⟨st, nx, fr0.of_keeps fun b o hb _ => ⟨o, hx.keeps b o hb, rfl⟩, _, _, hobj, ⟨rfl, rfl⟩, rfl, rfl, rfl⟩
  have inB : ∀ b o, s.heap.get? b = some o → b ∉ frs (envOfC qual scope s₀.heap.objs.size f cd :: outer) → ∃ ob, (PySem.W.hideAll s.heap (frs (envOfC qual scope s₀.heap.objs.size f cd :: outer))).get? b = some ob := fun b o e hb => ⟨o, PySem.W.hideAll_get _ e hb⟩
  have trk : ∀ b o, H b = some o → ∃ ob, (PySem.W.hideAll s.heap (frs (envOfC qual scope s₀.heap.objs.size f cd :: outer))).get? b = some ob := fun b o e => by
    have lt := I.hok.lt e
    cases e2 : s.heap.get? b with
    | none =>
      exfalso
      have ok := I.hok b o e
      obtain ⟨ob, hob⟩ := ok.there
      rw [e2] at hob
      cases hob
    | some ob =>
      refine inB b ob e2 fun z => ?_
      have := I.stkFree b z
      rw [e] at this
      cases this
  have old : ∀ b o, s₀.heap.get? b = some o → b ∉ frs outer → ∃ ob, (PySem.W.hideAll s.heap (frs (envOfC qual scope s₀.heap.objs.size f cd :: outer))).get? b = some ob := fun b o e hb => by
    obtain ⟨o', e1⟩ := I.base.there b o e (by show b ∉ ([] : List Addr); simp)
    refine inB b o' e1 fun z => ?_
    rcases List.mem_cons.mp (I.stkSub b z) with z | z
    · exact absurd (Nat.lt_of_lt_of_le (Heap.lt_size e) I.ok.above) (by rw [z]; exact Nat.lt_irrefl _)
    · exact hb z
  have u0 : Un (frs outer) [] H₀ H s₀.heap s.heap := un_through I rfl Un.refl
  have u1 : Un (frs outer) [] H₀ H s₀.heap s'.heap := u0.trans (Un.kept hx.keeps)
  have ok1 : HOk P w H s'.heap := I.hok.kept hx.keeps
  have nxH : H x = none := by
    cases e : H x with
    | none => rfl
    | some o =>
      obtain ⟨ob, hob⟩ := (I.hok x o e).there
      rw [hx.new] at hob
      cases hob
  show wpAny (model P w) _ (leaving _ (.ref x)) _ _ s'
  exact fresh_leave hfr rfl F fun h' F' up => ⟨x, c, _, H, rfl, F', (show s'.os = s₀.os from ho.trans I.os), hg, fly_un u1 F.stay F'.stay up old (fly_data F.frs.2.2), fly_hok ok1 F.stay F'.stay trk, nxH, trk, old, q⟩
end
end L2

namespace L2
open PySem PySem.Spec PyProof.Rows

/-! ## While an exception is handled -/
theorem entry_unchain : entryFor table "proto.unchain" = some Builtin.«proto.unchain» := entryFor_of_tree (by kernel_rfl)
section
variable {prog : Program} {w : World} {A : Around} {E : Value → Shared → Prop} {s : Shared}
/-- a new exception while another one, without context, is handled -/
theorem raiseNew_h {α : Type} {x e : Addr} {ox oe : Obj} {vs xs : Array Value} {Q : α → Shared → Prop} (hh : A.handled = some (.ref e)) (hx : s.heap.get? x = some ox) (dx : ox.data = .fields xs) (hs : 2 < xs.size) (ne : e ≠ x)
    (he : s.heap.get? e = some oe) (de : oe.data = .fields vs) (h2 : vs[2]? = some .none)
    (h : E (.ref x) { s with heap := s.heap.update x (Obj.mapFields (·.setIfInBounds 2 (.ref e))) }) : wpAny (model prog w) A (raiseNew (.ref x) : Sem α) Q E s := by
  unfold raiseNew
  refine wpAny_bind (wpAny_handled ?_)
  rw [hh]
  dsimp only
  rw [if_pos (by simpa using ne)]
  refine wpAny_bind (wpAny_holding (wpAny_runValue (codeAny_builtin entry_unchain ?_)))
  unfold Builtin.«proto.unchain»
  dsimp only
  refine wpAny_bind (wpAny_field he de h2 ?_)
  rw [if_pos (by decide)]
  refine wpAny_pure ?_
  dsimp only
  refine wpAny_bind ?_
  unfold updateField
  refine wpAny_bind (wpAny_load hx ?_)
  rw [dx]
  dsimp only
  rw [if_pos hs]
  refine wpAny_update hx ?_
  exact wpAny_throw h
theorem range_end_h {it e : Addr} {oe : Obj} {vs : Array Value} {x left step : Int} {Q : Option Value → Shared → Prop} (hh : A.handled = some (.ref e)) (he : s.heap.get? e = some oe) (de : oe.data = .fields vs) (h2 : vs[2]? = some .none)
    (hit : IsRangeIter s.heap it x left step) (hleft : left ≤ 0)
    (hQ : ∀ h', Heap.ExtBut it s.heap h' → Q none { s with heap := h' }) : wpAny (model prog w) A (pyNext (.ref it)) Q E s := by
  have ty : s.TypeIs (.ref it) "range_iterator" := ⟨_, hit, rfl⟩
  unfold pyNext
  refine wpAny_bind (wpAny_attempt (wpAny_callSpecial?_slot (name := Str.ofString "__next__") ty F.slot_range_iterator_next (wpAny_call_entry F.slot_range_iterator_next ty F.entry_range_iterator_next (?_ : wpAny _ _ (field (.ref it) 0 >>= _) _ _ s) (F.args_range_iterator_next_1 _))))
  refine wpAny_bind (wpAny_field hit rfl (x := rawInt x) rfl (?_ : wpAny _ _ (field (.ref it) 1 >>= _) _ _ s))
  refine wpAny_bind (wpAny_field hit rfl (x := rawInt left) rfl (?_ : wpAny _ _ (field (.ref it) 2 >>= _) _ _ s))
  refine wpAny_bind (wpAny_field hit rfl (x := rawInt step) rfl (?_ : wpAny _ _ (if left ≤ 0 then _ else _) _ _ s))
  rw [if_pos hleft]
  refine wpAny_bind (wpAny_rule (wpAny_bind (?_ : wpAny _ _ (newExc (.type "StopIteration") [] >>= _) _ _ _)))
  refine wpAny_bind (?_ : wpAny _ _ (newTuple [] >>= _) _ _ _)
  simp only [newTuple]
  refine wpAny_bind (wpAny_newObj_type (wpAny_bind (m := firstArgMember _ _) (wpAny_of_eq (a := Value.none) (by first | rfl | (simp only [firstArgMember]; rfl)) (wpAny_newObj_type ?_ (by size_fits)))) (by size_fits))
  refine raiseNew_h (A := A.in1) (e := e) (oe := oe) (vs := vs) (show A.in1.handled = some (.ref e) from hh) (Heap.get?_push_size _ rfl) rfl (by rw [Array.size_append]; exact Nat.lt_of_lt_of_le (show 2 < 6 by decide) (Nat.le_add_right _ _)) ?_ (Heap.get?_push_of_some _ (Heap.get?_push_of_some _ he)) de h2 ?_
  · rw [Heap.size_push]
    exact Nat.ne_of_lt (Nat.lt_succ_of_lt (Heap.lt_size he))
  · refine wpAny_bind (wpAny_isInstance (T := "StopIteration") (b := true) ⟨_, Heap.get?_update_self _ (Heap.get?_push_size _ rfl) rfl, rfl⟩ isSubtype_stop ?_)
    refine wpAny_pure (hQ _ fun b o hb hbo => ?_)
    rw [Heap.get?_update_other _ _ ?_]
    · exact Heap.get?_push_of_some _ (Heap.get?_push_of_some _ hbo)
    · rw [Heap.size_push]
      exact Nat.ne_of_gt (Nat.lt_succ_of_lt (Heap.lt_size hbo))
end
/-- the exception at e is handled, its record oe is pinned, it has no context -/
def QH (e : Addr) (oe : Obj) (Y : Cx) : Prop := Y.A.handled = some (.ref e) ∧ (e, oe) ∈ Y.pn ∧ ∃ vs, oe.data = .fields vs ∧ vs[2]? = some .none
section
variable {X : Cx} {tg : Expr} {e : Addr} {oe : Obj}
theorem QH.comp {scope : Scope} {N : List Str} {cl : List (Str × Addr)} {C : Addr} {s : Shared} {H : Hp} {fp : List Addr} {pins : List (Addr × Obj)} (q : QH e oe X) : QH e oe (cxComp X scope N cl C s H fp (X.pn ++ pins)) :=
  ⟨q.1, List.mem_append_left _ q.2.1, q.2.2⟩
theorem range_item_q {it : Addr} {lo : Int} {n i : Nat} {pins : List (Addr × Obj)} {s : Shared} {σ : St} {H : Hp} {E : Value → Shared → Prop} (I : Inv X pins σ H s) (hf : ∀ b ∈ [it], FpOk X pins H b)
    (st : IsRangeIter s.heap it (lo + (i : Nat) * 1) ((n : Int) - (i : Nat)) 1) (hg : i < n) :
    wpAny (model X.prog X.w) X.A (pyNext (.ref it)) (fun r s1 => ∃ u, r = some u ∧
      wpAny (model X.prog X.w) X.A (letOwnedTupleGo tg (.ref it) u) (fun _ s2 => ∃ x H', Inv X pins σ H' s2 ∧ RelV x u ∧ (Itr lo n).yld i H x H' ∧ IsRangeIter s2.heap it (lo + ((i + 1 : Nat) : Int) * 1) ((n : Int) - ((i + 1 : Nat) : Int)) 1 ∧ ∀ b ∈ [it], H' b = none) E s1) E s := by
  obtain ⟨f0, f1, f2, f3, f4, f5⟩ := hf it (by simp)
  refine wpAny_pyNext_range_item st (by omega) fun h' st' sb => ?_
  have I1 : Inv X pins σ H { s with heap := h', toks := s.toks + 1 } := I.turned (fun b o hb e => (sb.2 b hb).trans e) f0 f1 f3 f4 f5
  have st2 : IsRangeIter h' it (lo + ((i + 1 : Nat) : Int) * 1) ((n : Int) - ((i + 1 : Nat) : Int)) 1 := by
    have e1 : lo + ((i + 1 : Nat) : Int) * 1 = lo + (i : Nat) * 1 + 1 := by omega
    have e2 : (n : Int) - ((i + 1 : Nat) : Int) = (n : Int) - (i : Nat) - 1 := by omega
    rw [e1, e2]; exact st'
  refine ⟨_, rfl, go_of (s := { s with heap := h', toks := s.toks + 1 }) (n := "range_iterator") st2 rfl rfl (by decide) ⟨.int (lo + i), H, I1, ⟨s.toks, ?_⟩, ⟨rfl, rfl⟩, st2, fun b hb => (hf b hb).1⟩⟩
  rw [Int.mul_one]
theorem trn_range {P : Program} {w : World} {K : PySem.W.Frag} (it : Addr) (lo : Int) (n : Nat) : Trn P w K (QH e oe) tg (Itr lo n) [it] it (fun i h => IsRangeIter h it (lo + (i : Nat) * 1) ((n : Int) - (i : Nat)) 1) where
  obj := fun i h st b hb => by
    have e : b = it := by simpa using hb
    subst e
    exact ⟨_, st, fun v z => by
      have z' : Data.fields _ = Data.cell v := z
      cases z'⟩
  keep := fun i h h' st k => k it (by simp) _ st
  steps := fun Y hP hw hK hz => ⟨fun i pins s σ H E I hf st hg => range_item_q I hf st hg, fun i pins s σ H E I hf st hg => by
    obtain ⟨hh, hm, vs, de, h2⟩ := hz
    obtain ⟨f0, f1, f2, f3, f4, f5⟩ := hf it (by simp)
    exact range_end_h hh (I.pin (e, oe) (List.mem_append_left _ hm)).1 de h2 st (by have : n ≤ i := hg; omega) fun h' eb => ⟨rfl, I.turned (t' := s.toks) (fun b o hb e => eb b o hb e) f0 f1 f3 f4 f5⟩⟩
  self := fun _ _ _ _ _ st h => wpAny_pyIter_rangeiter st h
theorem range_itq {pins : List (Addr × Obj)} {σ : St} {H : Hp} {s : Shared} {R : It → Hp → Prop} {E : Value → Shared → Prop} {lo hi : Int} {t u v : Tok} {tk : Nat} (I : Inv X pins σ H s) (h1 : -(2 ^ 62) ≤ lo) (h2 : lo < 2 ^ 62) (h3 : -(2 ^ 62) ≤ hi) (h4 : hi < 2 ^ 62)
    (q : R (Itr lo (hi - lo).toNat) H) : wpAny (model X.prog X.w) X.A (pyIter (.ref s.heap.objs.size)) (PIEq (QH e oe) X pins σ tg R) E { s with heap := s.heap.push { cls := .type "range", data := .fields #[.int lo t, .int hi u, .int 1 v] }, toks := tk } := by
  refine wpAny_pyIter_range (IsRange.new ..) (small_one h1 h2 h3 h4) ?_
  have I1 : Inv X pins σ H { s with heap := s.heap.push { cls := .type "range", data := .fields #[.int lo t, .int hi u, .int 1 v] }, toks := tk } := I.kept fun b o e => Heap.get?_push_of_some _ e
  refine ⟨(s.heap.push { cls := .type "range", data := .fields #[.int lo t, .int hi u, .int 1 v] }).objs.size, [(s.heap.push { cls := .type "range", data := .fields #[.int lo t, .int hi u, .int 1 v] }).objs.size], _, _, H, rfl,
    I1.kept (t' := tk) fun b o e => Heap.get?_push_of_some _ e, trn_range _ lo (hi - lo).toNat, ?_, fun b hb => ?_, q⟩
  · have e1 : lo + ((0 : Nat) : Int) * 1 = lo := by simp
    have e2 : (((hi - lo).toNat : Nat) : Int) - ((0 : Nat) : Int) = Builtin.Range.rangeSize lo hi 1 := by rw [rangeSize_one]; split <;> omega
    show IsRangeIter _ _ (lo + ((0 : Nat) : Int) * 1) ((((hi - lo).toNat : Nat) : Int) - ((0 : Nat) : Int)) 1
    rw [e1, e2]
    exact Heap.get?_push_size _ rfl
  · have e : b = (s.heap.push { cls := .type "range", data := .fields #[.int lo t, .int hi u, .int 1 v] }).objs.size := by simpa using hb
    subst e
    exact I1.fpOk (Nat.le_refl _) (I1.hok.fresh (Nat.le_refl _))
theorem pi_range1q {a : Expr} {ta : TA} {p pos : Pos} (hg : Gl X "range") (hm : X.mg "range" = none) (ha : PA X [a] ta) (hs : starEach [a] X.env = [(false, eval a X.env)] := by rfl) : PIq (QH e oe) X tg (.Call (.Name "range" p) [a] [] pos) (iRng1 ta) := by
  intro pins s σ H R I h
  refine Call_ (ld_blt I hg hm boot_range (PyProof.Rows.callWith_type1 (thn (ha pos pins s σ H _ I h) fun us s1 ⟨vs, H1, I1, r1, q1⟩ => ?_) hs rfl))
  obtain ⟨j, e, q1, q2, q⟩ := q1
  subst e
  cases r1 with
  | cons r rr =>
    cases rr
    obtain ⟨t, rfl⟩ := r
    exact call_range_1 (range_itq I1 (by omega) (by omega) q1 q2 (by simpa using q))
end
end L2

namespace L2
open PySem PySem.Spec PyProof.Rows

/-! ## A def called while an exception is handled -/
structure RoomH (k : Nat) (A : Around) (e : Addr) : Prop where
  hd : A.handled = some (.ref e)
  dp : A.depth + 3 * k + 5 < recursionLimit
  un : A.units + 16 * k + 200 < cLine
theorem Room.mark {k : Nat} {A : Around} {e : Addr} (r : Room k A) : RoomH k (A.mark (some (.ref e))) e := ⟨rfl, r.dp, r.un⟩
theorem RoomH.depth {k : Nat} {A : Around} {e : Addr} (r : RoomH k A e) : A.depth < recursionLimit := by have := r.dp; omega
structure FnOkH (P : Program) (w : World) (K : PySem.W.Frag) (mg : Str → Option Value) (base : Heap) (e : Addr) (oe : Obj) (k : Nat) (f : Addr) (fd : FuncData) (ps : List Str) (sp : Sp) : Prop where
  len : ∀ vs H Q E, sp vs H Q E → vs.length = ps.length
  run : ∀ (A : Around) (outer : List Env) (s : Shared) (H : Hp) (args : Args) (us : List Value) (vs : List V) (Q : VK), RoomH k A e → Env0 P w K mg base A outer s H → s.heap.get? e = some oe → H e = none → e ∉ frs outer → (∀ v, oe.data ≠ .cell v) →
    BindsTo s fd args (ps.zip us) → Vals vs us → sp vs H Q E0 → codeAny (model P w) A (.call (.ref f) args) (CR CX0 outer P w H s Q E0) s
/-- the body's context -/
def cxH (P : Program) (w : World) (K : PySem.W.Frag) (mg : Str → Option Value) (base : Heap) (N : List Str) (qual : Str) (scope : Scope) (f : Addr) (cd : Value) (A : Around) (outer : List Env) (s : Shared) (H : Hp) (e : Addr) (oe : Obj) : Cx :=
  { cxOf CX0 P w K mg base N qual scope f cd A outer s H E0 with calm := false, pn := [(e, oe)], xe := fun _ _ => False }
theorem cxH_q {P : Program} {w : World} {K : PySem.W.Frag} {mg : Str → Option Value} {base : Heap} {N : List Str} {qual : Str} {scope : Scope} {f : Addr} {cd : Value} {A : Around} {outer : List Env} {s : Shared} {H : Hp} {e : Addr} {oe : Obj} {vs : Array Value}
    (hh : A.handled = some (.ref e)) (de : oe.data = .fields vs) (h2 : vs[2]? = some .none) : QH e oe (cxH P w K mg base N qual scope f cd A outer s H e oe) := ⟨hh, List.mem_singleton.mpr rfl, vs, de, h2⟩
theorem fn_ofH {P : Program} {w : World} {K : PySem.W.Frag} {mg : Str → Option Value} {base : Heap} {e : Addr} {oe : Obj} {k : Nat} {f : Addr} {name qual : Str} {params : Arguments} {body : List Stmt} {scope : Scope} {dV kV doc pm cdv ct oc : Value} {an od : Option Addr}
    {osl : Array (Option Value)} {N ps : List Str} {sp : Sp} (lk : K.lookup f = some ⟨oc, od, .func (PySem.W.fnOf name qual params body scope dV kV doc pm an cdv ct), osl⟩) (hcd : PySem.W.codeIn K cdv qual = true) (S : FnScope N ps scope)
    (len : ∀ vs H Q E, sp vs H Q E → vs.length = ps.length)
    (hbody : ∀ (A : Around) (outer : List Env) (s : Shared) (H : Hp) (vs : List V) (Q : VK), A.handled = some (.ref e) → sp vs H Q E0 →
      ∃ t, PSs (cxH P w K mg base N qual scope f cdv A outer s H e oe) body t ∧ t { nx := fun _ H' => Q .non H', rt := Q } (start N vs) H) :
    FnOkH P w K mg base e oe (k + 1) f (PySem.W.fnOf name qual params body scope dV kV doc pm an cdv ct) ps sp := by
  refine ⟨len, fun A outer s H args us vs Q hr e0 he hn hne hnc hb r hsp => ?_⟩
  have hl := len _ _ _ _ hsp
  have KX : K.In s.heap := e0.mod.kin.keeps fun b o e => (e0.bs b o e).1
  have lim : s.heap.NoLimit := e0.mod.nolimit.keeps fun b o e => (e0.bs b o e).1
  have hkind : ∀ y ∈ ps.zip us, scope.names.lookup y.1 = some .local ∨ (scope.names.lookup y.1 = some .cell ∧ ((cellsFrom (s.heap.objs.size + 1) scope.names []).lookup y.1).isSome = true) := fun ⟨n, v⟩ hy => by
    rcases S.par n (List.of_mem_zip hy).1 with q | q
    · exact .inl q
    · exact .inr ⟨q, PySem.W.cellsFrom_some _ _ _ (.inl q)⟩
  refine codeAny_call_function hr.depth (KX _ _ lk) rfl S.co S.gen rfl (PySem.W.codeRec_of KX hcd) (hb _ _ _ _ ?_)
  refine wpAny_newFunctionEnv_cells S.kind hkind fun env hen s1 x => ?_
  subst hen
  refine ⟨lim.keeps x.toInCall.keep, codeAny_func ?_⟩
  obtain ⟨t, ht, hq⟩ := hbody A outer s H vs Q hr.hd hsp
  have I0 : Inv (cxOf CX0 P w K mg base N qual scope f cdv { A with handled := none } outer s H E0) [] (start N vs) H s1 :=
    inv_start S rfl ⟨e0.frames, e0.mod, e0.bs, e0.bsz, e0.funs, e0.frf, e0.hok, e0.bare⟩ hl r x
  have I : Inv (cxH P w K mg base N qual scope f cdv A outer s H e oe) [] (start N vs) H s1 := by
    refine ⟨⟨I0.ok.mod, I0.ok.kind, I0.ok.glob, I0.ok.blt, I0.ok.above, I0.ok.inj, I0.ok.has, I0.ok.cab, (fun z => absurd z Bool.false_ne_true), Around.frames_deeper e0.frames, I0.ok.stk, I0.ok.exf, I0.ok.bs, I0.ok.bsz, I0.ok.noex, I0.ok.exfs, I0.ok.funs, I0.ok.frf⟩,
      I0.os, I0.bare, I0.base, I0.loc, I0.cell, I0.free, I0.freeC, fun p hp => ?_, I0.hok, I0.len⟩
    have e1 : p = (e, oe) := by
      rcases List.mem_append.mp hp with z | z
      · exact List.mem_singleton.mp z
      · cases z
    subst e1
    exact ⟨x.toInCall.keep _ _ he, hn, Nat.ne_of_lt (Heap.lt_size he), hne, hnc⟩
  refine wpAny_mono (ht [] s1 (start N vs) H _ I hq) (fun fl s' hs => ?_) fun e s' hs => False.elim hs
  have fin : ∀ {σ' : St} {H' : Hp} {v : V} {u : Value}, Inv (cxH P w K mg base N qual scope f cdv A outer s H e oe) [] σ' H' s' → RelV v u → Q v H' → CE outer P w H s Q u s' :=
    fun {σ' H' v u} J rv q => ⟨v, H', J.os, J.bare, J.base, J.hok, rv, q⟩
  cases fl with
  | ret u =>
    obtain ⟨v, σ', H', J, rv, q⟩ := hs
    exact fin J rv q
  | next =>
    obtain ⟨σ', H', J, q⟩ := hs
    exact fin (v := V.non) (u := Value.none) J rfl q
  | brk =>
    obtain ⟨_, _, _, q⟩ := hs
    exact False.elim q
  | cont =>
    obtain ⟨_, _, _, q⟩ := hs
    exact False.elim q
section
variable {X : Cx} {k : Nat} {f : Addr} {fd : FuncData} {ps : List Str} {sp : Sp} {x : Str} {p pos : Pos} {ex : Expr} {es : List Expr} {t : TA} {e : Addr} {oe : Obj}
/-- f(..) while e is handled -/
theorem pe_callH (F : FnOkH X.prog X.w X.K X.mg X.base e oe k f fd ps sp) (hr : RoomH k X.A e) (hp : (e, oe) ∈ X.pn) (hgd : e ∉ frs X.stack) (hg : Gl X x) (hm : X.mg x = some (.ref f)) (hk : PySem.W.keepIn X.K (.ref f) = true) (hb : Binds X.K fd ps [])
    (ha : PA X (ex :: es) t) (hdb : (x == ("__debug__" : Str)) = false := by decide) (he : starEach (ex :: es) X.env = (false, eval ex X.env) :: starEach es X.env := by rfl) (hpl : (backTo pos (starEach es X.env)).any (·.1) = false := by rfl) :
    PE X (.Call (.Name x p) (ex :: es) [] pos) (tCall sp [] E0 t) := by
  intro pins s σ H Q I h
  refine wpAny_Call_Name_kw (ld_glob I hg hm ?_ hdb)
  refine PySem.W.callWith_K (h₀ := X.base) I.ok.mod.kin hk (thn (ha pos pins s σ H _ I h) fun us s1 ⟨vs, H1, I1, r, q⟩ => ⟨I1.kIn, ?_⟩) he hpl
  have q' : sp vs H1 Q E0 := by simpa using q
  have hl : us.length = ps.length := by rw [← r.length]; exact F.len _ _ _ _ q'
  obtain ⟨e1, e2, e3, e4, e5⟩ := I1.pin (e, oe) (List.mem_append_left _ hp)
  have hb' := hb s1 us I1.kIn (by simpa using hl)
  rw [List.append_nil] at hb'
  refine wpAny_call (codeAny_mono (F.run X.A X.stack s1 H1 ⟨us, []⟩ us vs Q hr I1.env0 e1 e2 hgd e5 hb' r q') fun r s' hq => ?_)
  cases r with
  | error e => exact False.elim hq
  | ok fl =>
    cases fl with
    | ret u => exact I1.after hq
    | next => exact False.elim hq
    | brk => exact False.elim hq
    | cont => exact False.elim hq
end
end L2

namespace L2
open PySem PySem.Spec PyProof.Rows

/-! ## try .. except X as e, where the suite returns -/
structure Air (P : Program) (w : World) (outer : List Env) (H : Hp) (s : Shared) (E : XK) (B : Heap) (x : Addr) (c : Value) (H' : Hp) (fl : Value) (s' : Shared) : Prop where
  fly : Fly B outer x c fl s'.heap
  os : s'.os = s.os
  bare : AllBare s'.gens
  un : Un (frs outer) [] H H' s.heap s'.heap
  hok : HOk P w H' s'.heap
  nx : H' x = none
  trk : ∀ b o, H' b = some o → ∃ ob, B.get? b = some ob
  old : ∀ b o, s.heap.get? b = some o → b ∉ frs outer → ∃ ob, B.get? b = some ob
  e : E c none H'
theorem Air.move {P : Program} {w : World} {outer : List Env} {H : Hp} {s : Shared} {E : XK} {B : Heap} {x : Addr} {c : Value} {H' : Hp} {fl fl' : Value} {s' : Shared} {h' : Heap} (a : Air P w outer H s E B x c H' fl s') (F : Fly B outer x c fl' h') (up : s'.heap.UpToSlots h') :
    Air P w outer H s E B x c H' fl' { s' with heap := h' } :=
  ⟨F, a.os, a.bare, fly_un a.un a.fly.stay F.stay up a.old (fly_data a.fly.frs), fly_hok a.hok a.fly.stay F.stay a.trk, a.nx, a.trk, a.old, a.e⟩
/-- within the try: pins at hand, an exception flies on to the handlers -/
def cxTry (X : Cx) (E : XK) (pn : List (Addr × Obj)) : Cx :=
  { X with pn := pn, xe := fun e s' => ∃ pins σ H s, Inv { X with pn := pn, xe := fun _ _ => False } pins σ H s ∧ CX1 X.prog X.w X.stack H s E e s' }
/-- within the suite: the exception at x, with the record ox, is handled -/
def cxHand (X : Cx) (x : Addr) (ox : Obj) (pn : List (Addr × Obj)) : Cx :=
  { X with A := X.A.mark (some (.ref x)), calm := false, pn := (x, ox) :: pn, xe := fun _ _ => False }
section
variable {X : Cx} {pins : List (Addr × Obj)} {σ : St} {H : Hp} {s : Shared}
theorem pass_try {E : XK} {pn : List (Addr × Obj)} : Passes (CX1 X.prog X.w) (cxTry X E pn) E := fun pins σ H s e s' I h =>
  ⟨pins, σ, H, s, ⟨⟨I.ok.mod, I.ok.kind, I.ok.glob, I.ok.blt, I.ok.above, I.ok.inj, I.ok.has, I.ok.cab, I.ok.hd, I.ok.frames, I.ok.stk, I.ok.exf, I.ok.bs, I.ok.bsz, I.ok.noex, I.ok.exfs, I.ok.funs, I.ok.frf⟩, I.os, I.bare, I.base, I.loc, I.cell, I.free, I.freeC, I.pin, I.hok, I.len⟩, h⟩
/-- another A, calm, pins, wish -/
theorem Inv.other {A : Around} {cm : Bool} {pn : List (Addr × Obj)} {xe : Value → Shared → Prop} {pins' : List (Addr × Obj)} (I : Inv X pins σ H s) (hf : A.frames = X.A.frames) (hd : cm = true → A.handled = none)
    (hp : ∀ p ∈ pn ++ pins', s.heap.get? p.1 = some p.2 ∧ H p.1 = none ∧ p.1 ≠ X.env.locals ∧ p.1 ∉ X.fs ∧ ∀ v, p.2.data ≠ .cell v) : Inv { X with A := A, calm := cm, pn := pn, xe := xe } pins' σ H s :=
  ⟨⟨I.ok.mod, I.ok.kind, I.ok.glob, I.ok.blt, I.ok.above, I.ok.inj, I.ok.has, I.ok.cab, hd, hf.trans I.ok.frames, I.ok.stk, I.ok.exf, I.ok.bs, I.ok.bsz, I.ok.noex, I.ok.exfs, I.ok.funs, I.ok.frf⟩, I.os, I.bare, I.base, I.loc, I.cell, I.free, I.freeC, hp, I.hok, I.len⟩
/-- the frame's names are another lot: nothing is known of them -/
theorem Inv.lost {h' : Heap} {m' : Str → Option Value} {t' : Nat} (I : Inv X pins σ H s) (hn' : h'.Ns X.env.locals m') (hs : Heap.SameBut X.env.locals s.heap h') : Inv X pins (List.replicate X.N.length none) H { s with heap := h', toks := t' } := by
  obtain ⟨m, hn, hl⟩ := id I.loc
  obtain ⟨oL, _, _, hoL, _⟩ := id hn
  refine ⟨I.ok, I.os, I.bare, ⟨fun b o e n hb hx => ?_, fun b o e n hb hx => ?_, I.base.free, fun b o e hx => ?_, I.base.tups, I.base.frzs, I.base.tbls⟩, ⟨m', hn', fun j y v' e1 e2 e3 => ?_⟩, fun y c e => ?_, I.free, I.freeC, fun p hp => ?_, fun b ob e => ?_, by simp⟩
  · exact (hs.2 b (Nat.ne_of_lt (Nat.lt_of_lt_of_le (Heap.lt_size e) I.ok.above))).trans (I.base.keep b o e n hb hx)
  · obtain ⟨sl, e1⟩ := I.base.slot b o e n hb hx
    exact ⟨sl, (hs.2 b (Nat.ne_of_lt (Nat.lt_of_lt_of_le (Heap.lt_size e) I.ok.above))).trans e1⟩
  · obtain ⟨o', e1⟩ := I.base.there b o e hx
    exact ⟨o', (hs.2 b (Nat.ne_of_lt (Nat.lt_of_lt_of_le (Heap.lt_size e) I.ok.above))).trans e1⟩
  · rw [List.getElem?_replicate] at e2
    split at e2 <;> cases e2
  · obtain ⟨w', z⟩ := I.cell y c e
    exact ⟨w', z.sameBut hs (I.cne y c e)⟩
  · obtain ⟨e, n, ne, nf, d⟩ := I.pin p hp
    exact ⟨(hs.2 p.1 ne).trans e, n, ne, nf, d⟩
  · refine (I.hok b ob e).stay (fun c w' hc q => (hs.2 c ?_).trans q) (fun _ q => q) fun _ _ q => q
    intro hcl
    rw [hcl] at hc
    rcases hc with z | z
    · rw [← z, I.free] at e; cases e
    · rw [I.free] at z; cases z
/-- tb: the body, by the wish; th: the suite, by the exception and its class -/
def tTry (X : Cx) (CE : Value) (i : Nat) (tb : XK → TS) (th : Addr → Value → TS) : TS := fun D σ H => ∃ E : XK, tb E D σ H ∧
  ∀ c H' x, E c none H' → H' x = none → PySem.W.exmOne X.K c CE = some true ∧ th x c { nx := fun _ _ => False, rt := D.rt, bk := fun _ _ => False, ct := fun _ _ => False } ((List.replicate X.N.length none).set i (some (.ref x))) H'
theorem ps_try {body : List Stmt} {cn n : Str} {np hpos pos : Pos} {b₀ : Stmt} {suite : List Stmt} {i : Nat} {CE : Value} {tb : XK → TS} {th : Addr → Value → TS} (hst : X.stack = X.env :: X.outer) (hfr : X.env.frame = some X.env.locals) (hN : X.N.Nodup) (hi : X.N[i]? = some n)
    (hl : X.env.scope.names.lookup n = some .local) (hg : Gl X cn) (hm : X.mg cn = some CE)
    (hb : ∀ E pn, PSs (cxTry X E pn) body (tb E))
    (hh : ∀ x c ox pn vs, ox.cls = c ∧ ox.dict = none → ox.data = .fields vs → vs[2]? = some .none → x ∉ frs X.stack → PSs (cxHand X x ox pn) (b₀ :: suite) (th x c))
    (hd : (cn == ("__debug__" : Str)) = false := by decide) :
    PS X (.Try body [.ExceptHandler (some (.Name cn np)) (some n) (b₀ :: suite) hpos] [] [] pos) (tTry X CE i tb th) := by
  intro pins s σ H D I h
  obtain ⟨E, hbd, hex⟩ := h
  have I1 : Inv (cxTry X E (X.pn ++ pins)) [] σ H s := I.other rfl I.ok.hd (by rw [List.append_nil]; exact I.pin)
  have back : ∀ {σ' H' s'}, Inv (cxTry X E (X.pn ++ pins)) [] σ' H' s' → Inv X pins σ' H' s' := fun {σ' H' s'} J =>
    Inv.other (X := cxTry X E (X.pn ++ pins)) (A := X.A) (cm := X.calm) (pn := X.pn) (xe := X.xe) J rfl I.ok.hd fun p hp => J.pin p (List.mem_append_left _ hp)
  refine wpAny_Try_except (wpAny_mono (hb E (X.pn ++ pins) [] s σ H D I1 hbd) (fun f s1 q => ?_) fun e s1 q => ?_)
  · cases f with
    | next => obtain ⟨σ', H', J, q⟩ := q; exact wpAny_execs_nil ⟨σ', H', back J, q⟩
    | ret u => obtain ⟨v, σ', H', J, r, q⟩ := q; exact ⟨v, σ', H', back J, r, q⟩
    | brk => obtain ⟨σ', H', J, q⟩ := q; exact ⟨σ', H', back J, q⟩
    | cont => obtain ⟨σ', H', J, q⟩ := q; exact ⟨σ', H', back J, q⟩
  · obtain ⟨pins', σ', H1, s0, J, x, c, B, H2, rfl, F, ho, hgn, u, ok, nx, inB, old, q⟩ := q
    have a0 : Air X.prog X.w (X.env :: X.outer) H1 s0 E B x c H2 .none s1 := hst ▸ ⟨F, ho, hgn, u, ok, nx, inB, old, q⟩
    have hfrm : X.A.frames = some (X.env :: X.outer) := hst ▸ I.ok.frames
    refine fly_note hfrm hfr a0.fly fun h1 F1 u1 => ?_
    have a1 := a0.move F1 u1
    refine fly_land a1.fly fun h2 F2 u2 => ?_
    have a2 := a1.move F2 u2
    obtain ⟨hE, hth⟩ := hex c H2 x q nx
    have inv2 : ∀ {fl s'}, Air X.prog X.w (X.env :: X.outer) H1 s0 E B x c H2 fl s' → Inv { X with pn := X.pn ++ pins, xe := fun _ _ => False } pins' σ' H2 s' := fun {fl s'} a =>
      J.call' a.os (show Un (frs X.stack) [] H1 H2 s0.heap s'.heap by rw [hst]; exact a.un) a.hok a.bare fun b z => absurd z (by simp)
    have J2 := inv2 a2
    have xo : x ∉ frs X.stack := fun z => by
      rw [hst] at z
      obtain ⟨oe, vs, _, _, _, h1, _, h2, _⟩ := a2.fly.obj
      exact fly_data a2.fly.frs x z oe h1 vs h2
    have xl : x ≠ X.env.locals := fun z => xo (by rw [hst]; exact List.mem_filterMap.mpr ⟨X.env, List.mem_cons_self, by rw [z]; exact hfr⟩)
    have xf : x ∉ X.fs := fun z => xo (by
      rw [hst]
      obtain ⟨y, hy, e⟩ := List.mem_filterMap.mp z
      exact List.mem_filterMap.mpr ⟨y, List.mem_cons_of_mem _ hy, e⟩)
    have J2m : Inv { X with A := X.A.mark (some (.ref x)), calm := false, pn := [], xe := fun _ _ => False } [] σ' H2 { s1 with heap := h2 } := J2.other rfl (fun z => absurd z Bool.false_ne_true) fun p hp => absurd hp (by simp)
    refine wpAny_handleBy_cons (codeAny_handlers_test (ld_glob (X := { X with A := X.A.mark (some (.ref x)), calm := false, pn := [], xe := fun _ _ => False }) J2m hg hm ?_ hd)) (by intro q; cases q)
    have LT : PySem.W.Looks (model X.prog X.w) h2 (typeOf (.ref x)) c := by
      obtain ⟨oe, vs, _, _, _, h1, hc, _⟩ := a2.fly.obj
      rw [← hc.1]
      exact (PySem.W.Looks.ld h1).andThen .now
    refine (PySem.W.exm_one (M := model X.prog X.w) J2.kIn LT hE).here ?_
    dsimp only
    rw [if_pos rfl]
    refine codeAny_handlers_suite_as ?_
    refine fly_land a2.fly fun h3 F3 u3 => ?_
    have a3 := a2.move F3 u3
    have J3 := inv2 a3
    obtain ⟨ox, vs, T, oT, ts, hx, hc, hdx, h1x, h2x, nT, tx, hT, dT, h3x⟩ := a3.fly.obj
    have K3 : Inv (cxHand X x ox (X.pn ++ pins)) [] σ' H2 { s1 with heap := h3 } := J3.other (A := X.A.mark (some (.ref x))) (cm := false) (pn := (x, ox) :: (X.pn ++ pins)) (xe := fun _ _ => False) rfl (fun z => absurd z Bool.false_ne_true) fun p hp => by
      rw [List.append_nil] at hp
      rcases List.mem_cons.mp hp with z | z
      · subst z; exact ⟨hx, nx, xl, xf, fun v z => by rw [hdx] at z; cases z⟩
      · exact J3.pin p (List.mem_append_left _ z)
    have K3w := K3.weak (σ' := List.replicate X.N.length none) (by rw [List.length_replicate]; exact K3.len.symm) fun i v e => by
      rw [List.getElem?_replicate] at e
      split at e <;> cases e
    refine store_ok (X := cxHand X x ox (X.pn ++ pins)) (v := V.ref x) K3w hN hi (.inl hl) rfl (fun s4 K4 => ?_) (.inr hl)
    refine wpAny_mono (hh x c ox (X.pn ++ pins) vs hc hdx h2x xo [] s4 _ H2 _ K4 hth) (fun f s5 q5 => ?_) fun _ _ z => False.elim z
    cases f with
    | next => obtain ⟨_, _, _, z⟩ := q5; exact False.elim z
    | brk => obtain ⟨_, _, _, z⟩ := q5; exact False.elim z
    | cont => obtain ⟨_, _, _, z⟩ := q5; exact False.elim z
    | ret u5 =>
      obtain ⟨v, σ5, H5, K5, r5, q5⟩ := q5
      obtain ⟨m5, hn5, _⟩ := id K5.loc
      refine wpAny_nameGoes (env := X.env) (show X.env.kindOf n = some .local from hl) hn5 (by rw [I.ok.kind]; rfl) fun h6 m6 hn6 sb6 => ?_
      have K6 := K5.lost (t' := s5.toks + 1) hn6 sb6
      refine ⟨v, List.replicate X.N.length none, H5, ?_, r5, q5⟩
      exact Inv.other (X := cxHand X x ox (X.pn ++ pins)) (A := X.A) (cm := X.calm) (pn := X.pn) (xe := X.xe) K6 rfl I.ok.hd fun p hp => K6.pin p (List.mem_append_left _ (List.mem_cons_of_mem _ hp))
end
end L2

namespace L2
open PySem PySem.Spec PyProof.Rows

/-! ## Own error classes -/
structure ErrCls (K : PySem.W.Frag) (D : Addr) : Prop where
  ga : PySem.W.findIn K (.ref D) "__getattribute__" = some (some (.builtin "BaseException.__getattribute__"))
  gh : PySem.W.findIn K (.ref D) "__getattr__" = some none
  hc : (PySem.W.clsIn K D).isSome = true
  ha : PySem.W.findIn K (.ref D) "__class__" = some (some (.builtin "object.__class__"))
  hn : PySem.W.specialIn K (.builtin "object.__class__") "__get__" = some (some (.builtin "getset_descriptor.__get__"))
  ht : PySem.W.takesIn K (.builtin "object.__class__") = some true
  hm : PySem.W.mroIn K D (.type "object") = some true
  hb : PySem.W.mroIn K D (.type "BaseException") = some true
theorem find_cls {K : PySem.W.Frag} {D : Addr} (E : ErrCls K D) (od : Option Obj) : PySem.W.findObj K D od "__class__" = some (.bind (.builtin "getset_descriptor.__get__") (.builtin "object.__class__")) := by
  obtain ⟨cd, hc⟩ := Option.isSome_iff_exists.mp E.hc
  unfold PySem.W.findObj
  rw [hc]
  simp [E.ha, E.hn, E.ht]
section
variable {prog : Program} {w : World} {A : Around} {E : Value → Shared → Prop} {s : Shared} {K : PySem.W.Frag} {x D : Addr} {ox : Obj}
theorem exc_check {M : Model} {nameV : Value} {Q : Unit → Shared → Prop} (Er : ErrCls K D) (X : K.In s.heap) (I : PySem.W.InstAt s.heap x ox D none) (hq : Q () s) :
    wpAny M A (checkBuiltinCall "BaseException.__getattribute__" ⟨[.ref x, nameV], []⟩) Q E s := by
  have hk : builtinKind "BaseException.__getattribute__" = some .slot := by decide +kernel
  have hsplit : splitId "BaseException.__getattribute__" = some ("BaseException", "__getattribute__") := by decide +kernel
  have ha := F.args_bexc_ga (.ref x) nameV
  have L0 := I.type (M := M)
  have L1 := PySem.W.looks_mroIn (M := M) X Er.hb
  have LI : PySem.W.Looks M s.heap (isInstance (.ref x) (.type "BaseException")) true := L0.andThen L1
  obtain ⟨h, g, d, t, os⟩ := s
  simp only [checkBuiltinCall, hk, hsplit]
  refine wpAny_bind (LI.at ?_)
  repeat (any_goals (first | assumption | wp_step))
theorem exc_entry {tk : Tok} {Q : Fin → Shared → Prop} (Er : ErrCls K D) (X : K.In s.heap) (I : PySem.W.InstAt s.heap x ox D none) (hq : Q (.done (.ret (.ref D))) s) :
    wpAny (model prog w) A (Builtin.«object.__getattribute__» ⟨[.ref x, .str "__class__" tk], []⟩) Q E s := by
  obtain ⟨h, g, d, t, os⟩ := s
  have L0 := I.type (M := model prog w)
  have L1 := PySem.W.looks_find (M := model prog w) X I (find_cls Er none)
  unfold Builtin.«object.__getattribute__»
  refine wpAny_bind (wpAny_of_eq (a := (.ref x, [.str "__class__" tk])) (by rfl) ?_)
  dsimp only
  refine wpAny_bind (wpAny_pure (wpAny_bind (L0.at (wpAny_bind (L1.at ?_)))))
  show wpAny _ _ (Builtin.ObjectAttr.bindTo (.builtin "getset_descriptor.__get__") (.builtin "object.__class__") (.ref x) (.ref D)) _ _ _
  unfold Builtin.ObjectAttr.bindTo
  dsimp only
  refine wpAny_bind (wpAny_holding (wpAny_call (PySem.W.class_get (s := ⟨h, g, d, t, os⟩) (ox := ox) (od := none) X I Er.hm ?_)))
  exact wpAny_pure hq
theorem exc_call {tk : Tok} {R : Result → Shared → Prop} (Er : ErrCls K D) (X : K.In s.heap) (I : PySem.W.InstAt s.heap x ox D none) (hq : R (.ok (.ret (.ref D))) s) :
    codeAny (model prog w) A (.call (.builtin "BaseException.__getattribute__") ⟨[.ref x, .str "__class__" tk], []⟩) R s :=
  codeAny_call_builtin F.excAttr_ValueError.ga.plain F.entry_bexc_ga (exc_check Er X I (exc_entry Er X I hq))
theorem exc_class {Q : Option Value → Shared → Prop} (Er : ErrCls K D) (X : K.In s.heap) (I : PySem.W.InstAt s.heap x ox D none) (hq : Q (some (.ref D)) { s with toks := s.toks + 1 }) : wpAny (model prog w) A (getAttr? (.ref x) "__class__") Q E s := by
  obtain ⟨h, g, d, t, os⟩ := s
  have L0 := I.type (M := model prog w)
  have L1 := PySem.W.looks_findIn (M := model prog w) X Er.ga
  have L2 := PySem.W.looks_findIn (M := model prog w) X Er.gh
  have f3 := F.excAttr_ValueError.ga.bind (.ref x)
  unfold getAttr? getAttrBy? getAttrBy
  refine wpAny_bind (wpAny_mkText (wpAny_bind (wpAny_attempt (wpAny_holding (wpAny_bind (L0.at (wpAny_bind (L1.at ?_))))))))
  have hx2 : (onTheHeap (Value.ref D) && Value.builtin "BaseException.__getattribute__" == Value.builtin "object.__getattribute__") = false := by
    have hx1 : (Value.builtin "BaseException.__getattribute__" == Value.builtin "object.__getattribute__") = false := by decide +kernel
    rw [hx1, Bool.and_false]
  dsimp only
  rw [hx2, if_neg Bool.false_ne_true]
  unfold getAttrByItsOwn hookBefore
  refine wpAny_bind ?_
  rw [if_pos (by rfl)]
  refine L2.at ?_
  refine wpAny_bind (wpAny_attempt (wpAny_holding ?_))
  unfold callGetattribute
  rw [if_neg (by decide)]
  unfold boundAndCalled
  refine wpAny_bind ?_
  rw [f3]
  refine wpAny_pure ?_
  refine wpAny_call (exc_call (s := ⟨h, g, d, t + 1, os⟩) Er X I ?_)
  exact PySem.W.handed_on rfl (wpAny_pure hq)
end
theorem isType_cls {K : PySem.W.Frag} {D : Addr} {M : Model} {h : Heap} (X : K.In h) (hc : (PySem.W.clsIn K D).isSome = true) : PySem.W.Looks M h (isType (.ref D)) true := by
  obtain ⟨cd, hc⟩ := Option.isSome_iff_exists.mp hc
  unfold PySem.W.clsIn at hc
  split at hc
  · next ho =>
    intro A Q E s k q
    unfold isType loadHead
    exact wpAny_bind (wpAny_loadPart (k _ _ (X _ _ ho)) (wpAny_pure q))
  · cases hc
theorem kitx_exc {K : PySem.W.Frag} {x D : Addr} {ox : Obj} (Er : ErrCls K D) : PySem.W.KitX K (.ref x) (.ref D) (fun h => PySem.W.InstAt h x ox D none) where
  ty := fun _ _ _ I => I.type
  it := fun _ _ X _ => isType_cls X Er.hc
  ne := fun h tp dd its n sl X htp => by
    obtain ⟨cd, hc⟩ := Option.isSome_iff_exists.mp Er.hc
    refine Bool.eq_false_iff.mpr fun q => ?_
    have e : D = tp := Value.ref.inj (beq_iff_eq.mp q)
    subst e
    unfold PySem.W.clsIn at hc
    split at hc
    · next ho =>
      have z := (X _ _ ho).symm.trans htp
      cases z
    · cases hc
  ca := fun X I k => exc_class Er X I k
section
variable {X : Cx}
/-- isinstance of the exception that is handled, by an own class -/
theorem call_isx : CallR X (.builtin "isinstance") (fun xs H Q => ∃ (e C D : Addr) (oe : Obj) (b : Bool), xs = [.ref e, .ref C] ∧ ((e, oe) ∈ X.pn ∧ (oe.cls = .ref D ∧ oe.dict = none) ∧ ∃ vs, oe.data = .fields vs) ∧ ErrCls X.K D ∧ PySem.W.kitOne X.K (.ref D) (.ref C) = some b ∧ Q (.bl b) H) := by
  intro pins s σ H xs us Q I r h
  obtain ⟨e, C, D, oe, b, rfl, ⟨hp, ⟨hc, hd⟩, vs, hv⟩, Er, hk, q⟩ := h
  obtain ⟨u, u', rfl, ru, ru'⟩ := vals2 r
  cases (show u = Value.ref e from ru)
  cases (show u' = Value.ref C from ru')
  have ia : PySem.W.InstAt s.heap e oe D none := ⟨(I.pin (e, oe) (List.mem_append_left _ hp)).1, hc, by unfold PySem.W.notCls; rw [hv], by rw [hd]; trivial⟩
  exact PySem.W.kia_one (kitx_exc (ox := oe) Er) I.kIn ia hk (fun z => nomatch z) fun tk => ⟨.bl b, H, I.tok _, rfl, q⟩
end
/-! ### raise -/
/-- an own class as raise wants it -/
structure Err (K : PySem.W.Frag) (mg : Str → Option Value) (x : Str) (C : Addr) : Prop where
  bound : mg x = some (.ref C)
  exc : PySem.W.excIn K C [.type "ValueError", .type "Exception", .type "BaseException", .type "object"] "ValueError.__new__" = true
theorem err_obj {K : PySem.W.Frag} {h : Heap} {C : Addr} {bmB : List Value} {newId : String} (X : K.In h) (q : PySem.W.excIn K C bmB newId = true) :
    ∃ bm N nm q bs hdct sn sub ab col dd k0 k1 k2 k3 k5 mN, h.get? C = some (excClassObj nm q C N bs bm hdct sn sub ab col dd k0 k1 k2 k3 k5 newId) ∧ h.Ns N mN ∧ mN "__init__" = none ∧ OwnTail h bmB bm := by
  unfold PySem.W.excIn at q
  split at q
  · next dd cd sl ho =>
    split at q
    · next C' bm k0 k1 k2 k3 n k5 hm hs =>
      simp only [Bool.and_eq_true, beq_iff_eq, Bool.not_eq_true'] at q
      obtain ⟨⟨⟨⟨⟨r1, r2⟩, hdel⟩, ht⟩, hok⟩, hni⟩ := q
      subst r1 r2
      cases cd with
      | mk nm bs mro ns qn hd sn sub ab col del =>
        dsimp only at hm hdel hok hni
        subst hm hdel
        cases sl with
        | mk l =>
          simp only at hs
          subst hs
          exact ⟨bm, ns, nm, qn, bs, hd, sn, sub, ab, col, dd, k0, k1, k2, k3, k5, _, X _ _ ho, .of_isNs (PySem.W.isNs_of_in X hok), PySem.W.nsMap_none_of_in X hok hni, PySem.W.tail_of_in X ht⟩
    · cases q
  · cases q
def tRaise (E : XK) (C : Addr) (ta : TA) : TS := fun _ σ H => ta σ H fun vs H1 => vs.length ≤ sizeLine ∧ E (.ref C) none H1
section
variable {P : Program} {w : World} {K : PySem.W.Frag} {mg : Str → Option Value} {base : Heap} {N : List Str} {qual : Str} {scope : Scope} {f : Addr} {cd : Value} {A : Around} {outer : List Env} {s₀ : Shared} {H₀ : Hp} {E : XK}
theorem ps_raise {x : Str} {C : Addr} {np cpos pos : Pos} {e : Expr} {es : List Expr} {t : TA} (O : Err K mg x C) (hg : Gl (cxOf (CX1 P w) P w K mg base N qual scope f cd A outer s₀ H₀ E) x)
    (ha : PA (cxOf (CX1 P w) P w K mg base N qual scope f cd A outer s₀ H₀ E) (e :: es) t) (hd : (x == ("__debug__" : Str)) = false := by decide)
    (he : starEach (e :: es) (envOfC qual scope s₀.heap.objs.size f cd) = (false, eval e (envOfC qual scope s₀.heap.objs.size f cd)) :: starEach es (envOfC qual scope s₀.heap.objs.size f cd) := by rfl)
    (hpl : (backTo cpos (starEach es (envOfC qual scope s₀.heap.objs.size f cd))).any (·.1) = false := by rfl) :
    PS (cxOf (CX1 P w) P w K mg base N qual scope f cd A outer s₀ H₀ E) (.Raise (some (.Call (.Name x np) (e :: es) [] cpos)) none pos) (tRaise E C t) := by
  intro pins s σ H D I h
  obtain ⟨bm, Nn, nm, q, bs, hdct, sn, sub, ab, col, dd, k0, k1, k2, k3, k5, mN, hC, hN, hni, T⟩ := err_obj I.ok.mod.kin O.exc
  refine wpAny_Raise_call_subT (C := C) (nm := nm) (q := q) (N := Nn) (bs := bs) (bm := bm) (hdct := hdct) (sn := sn) (sub := sub) (ab := ab) (col := col) (dd := dd) (k0 := k0) (k1 := k1) (k2 := k2) (k3 := k3) (k5 := k5) (env := envOfC qual scope s₀.heap.objs.size f cd)
    F.excBase_ValueError (mN := mN) (T.hasType F.excBase_ValueError.hasBase) (I.ok.hd rfl) ?_ hni (ld_glob I hg O.bound ⟨rfl, ?_⟩ hd)
  · rw [he]
    show (false || (backTo cpos (starEach es (envOfC qual scope s₀.heap.objs.size f cd))).any (·.1)) = false
    rw [hpl]; rfl
  · have g := ha cpos pins s σ H _ I h
    change wpAny _ _ (spliced (backTo cpos (starEach (e :: es) (envOfC qual scope s₀.heap.objs.size f cd)))) _ _ s at g
    rw [he] at g ⊢
    refine Calls.evalArgs_plain (thn g fun us s2 ⟨vs, H1, I1, r, hl, q⟩ => ?_)
    exact ⟨rfl, by rw [← r.length]; exact hl, I1.bk _ _ hC, hN.keeps I1.bk, T.keeps I1.bk, fun h' x hx => raise_out I1 hx rfl I1.bare q⟩
end
/-! ### defs and methods whose callers take their exceptions -/
structure Callee1 (P : Program) (w : World) (K : PySem.W.Frag) (mg : Str → Option Value) (base : Heap) (x : Str) (k : Nat) (ps : List Str) (sp : Sp) : Prop where
  ex : ∃ f fd, FnOk P w K mg base (CX1 P w) k f fd ps sp ∧ mg x = some (.ref f) ∧ PySem.W.keepIn K (.ref f) = true ∧ Binds K fd ps []
/-- a method of the class at C, as the top has left it -/
structure MethAt (K : PySem.W.Frag) (C : Addr) (cn m : Str) (st : Stmt) : Prop where
  ex : ∃ f fd, Fun K m (cn ++ Str.ofString "." ++ m) st f fd ∧ Meth K C m f
structure Method (P : Program) (w : World) (K : PySem.W.Frag) (mg : Str → Option Value) (base : Heap) (C : Addr) (m : Str) (CX : CXT) (k : Nat) (ps : List Str) (sp : Sp) : Prop where
  ex : ∃ f fd, FnOk P w K mg base CX k f fd ps sp ∧ Meth K C m f ∧ Binds K fd ps []
section
variable {P : Program} {w : World} {K : PySem.W.Frag} {mg : Str → Option Value} {base : Heap}
theorem Fun.ok1 {x qual : Str} {st : Stmt} {f : Addr} {fd : FuncData} {N ps : List Str} {k : Nat} {sp : Sp} (F : Fun K x qual st f fd) (S : FnScope N ps (defScope st)) (len : ∀ vs H Q E, sp vs H Q E → vs.length = ps.length)
    (hbody : ∀ (cdv : Value) (A : Around) (outer : List Env) (s : Shared) (H : Hp) (vs : List V) (Q : VK) (E : XK), Room k (A.deeper (envOfC qual (defScope st) s.heap.objs.size f cdv)) → sp vs H Q E →
      ∃ t, PSs (cxOf (CX1 P w) P w K mg base N qual (defScope st) f cdv A outer s H E) (defBody st) t ∧ t { nx := fun _ H' => Q .non H', rt := Q } (start N vs) H) : FnOk P w K mg base (CX1 P w) (k + 1) f fd ps sp := by
  obtain ⟨oc, od, kV, doc, pm, an, cdv, ct, osl, rfl, lk, hcd⟩ := F.ex
  exact fn_of lk hcd S len fun A outer s H vs Q E hr hsp => hbody cdv A outer s H vs Q E hr hsp
theorem DefAt.callee1 {x : Str} {st : Stmt} {N ps : List Str} {k : Nat} {sp : Sp} (D : DefAt K mg x st) (S : FnScope N ps (defScope st))
    (hb : ∀ (kV doc pm : Value) (an : Option Addr) (cdv ct : Value) (us : List Value), us.length = ps.length → bindArgs (PySem.W.fnOf x x (defArgs st) (defBody st) (defScope st) .none kV doc pm an cdv ct) ⟨us, []⟩ = pure (ps.zip us))
    (len : ∀ vs H Q E, sp vs H Q E → vs.length = ps.length)
    (hbody : ∀ (f : Addr) (cdv : Value) (A : Around) (outer : List Env) (s : Shared) (H : Hp) (vs : List V) (Q : VK) (E : XK), Room k (A.deeper (envOfC x (defScope st) s.heap.objs.size f cdv)) → sp vs H Q E →
      ∃ t, PSs (cxOf (CX1 P w) P w K mg base N x (defScope st) f cdv A outer s H E) (defBody st) t ∧ t { nx := fun _ H' => Q .non H', rt := Q } (start N vs) H) : Callee1 P w K mg base x (k + 1) ps sp := by
  obtain ⟨f, fd, F, m⟩ := D.ex
  exact ⟨f, fd, F.ok1 S len (fun cdv A outer s H vs Q E hr h => hbody f cdv A outer s H vs Q E hr h), m, F.kp, F.binds hb⟩
theorem MethAt.meth1 {cn m : Str} {C : Addr} {st : Stmt} {N ps : List Str} {k : Nat} {sp : Sp} (D : MethAt K C cn m st) (S : FnScope N ps (defScope st))
    (hb : ∀ (kV doc pm : Value) (an : Option Addr) (cdv ct : Value) (us : List Value), us.length = ps.length → bindArgs (PySem.W.fnOf m (cn ++ Str.ofString "." ++ m) (defArgs st) (defBody st) (defScope st) .none kV doc pm an cdv ct) ⟨us, []⟩ = pure (ps.zip us))
    (len : ∀ vs H Q E, sp vs H Q E → vs.length = ps.length)
    (hbody : ∀ (f : Addr) (cdv : Value) (A : Around) (outer : List Env) (s : Shared) (H : Hp) (vs : List V) (Q : VK) (E : XK), Room k (A.deeper (envOfC (cn ++ Str.ofString "." ++ m) (defScope st) s.heap.objs.size f cdv)) → sp vs H Q E →
      ∃ t, PSs (cxOf (CX1 P w) P w K mg base N (cn ++ Str.ofString "." ++ m) (defScope st) f cdv A outer s H E) (defBody st) t ∧ t { nx := fun _ H' => Q .non H', rt := Q } (start N vs) H) : Method P w K mg base C m (CX1 P w) (k + 1) ps sp := by
  obtain ⟨f, fd, F, m⟩ := D.ex
  exact ⟨f, fd, F.ok1 S len (fun cdv A outer s H vs Q E hr h => hbody f cdv A outer s H vs Q E hr h), m, F.binds hb⟩
theorem MethAt.meth0 {cn m : Str} {C : Addr} {st : Stmt} {N ps : List Str} {k : Nat} {sp : Sp} (D : MethAt K C cn m st) (S : FnScope N ps (defScope st))
    (hb : ∀ (kV doc pm : Value) (an : Option Addr) (cdv ct : Value) (us : List Value), us.length = ps.length → bindArgs (PySem.W.fnOf m (cn ++ Str.ofString "." ++ m) (defArgs st) (defBody st) (defScope st) .none kV doc pm an cdv ct) ⟨us, []⟩ = pure (ps.zip us))
    (len : ∀ vs H Q E, sp vs H Q E → vs.length = ps.length)
    (hbody : ∀ (f : Addr) (cdv : Value) (A : Around) (outer : List Env) (s : Shared) (H : Hp) (vs : List V) (Q : VK) (E : XK), Room k (A.deeper (envOfC (cn ++ Str.ofString "." ++ m) (defScope st) s.heap.objs.size f cdv)) → sp vs H Q E →
      ∃ t, PSs (cxOf CX0 P w K mg base N (cn ++ Str.ofString "." ++ m) (defScope st) f cdv A outer s H E).nox (defBody st) t ∧ t { nx := fun _ H' => Q .non H', rt := Q } (start N vs) H) : Method P w K mg base C m CX0 (k + 1) ps sp := by
  obtain ⟨f, fd, F, m⟩ := D.ex
  exact ⟨f, fd, F.ok S len (fun cdv A outer s H vs Q E hr h => hbody f cdv A outer s H vs Q E hr h), m, F.binds hb⟩
end
section
variable {X : Cx} {x m : Str} {k : Nat} {ps : List Str} {sp : Sp} {p pos apos : Pos} {o e : Expr} {es : List Expr} {ta : TE} {t : TA} {E : XK} {C : Addr} {CX : CXT}
theorem pe_fn1 (F : Callee1 X.prog X.w X.K X.mg X.base x k ps sp) (hr : Room k X.A) (hx : Passes (CX1 X.prog X.w) X E) (hg : Gl X x) (ha : PA X (e :: es) t) (hdb : (x == ("__debug__" : Str)) = false := by decide)
    (he : starEach (e :: es) X.env = (false, eval e X.env) :: starEach es X.env := by rfl) (hpl : (backTo pos (starEach es X.env)).any (·.1) = false := by rfl) : PE X (.Call (.Name x p) (e :: es) [] pos) (tCall sp [] E t) := by
  obtain ⟨f, fd, F, hm, hk, hb⟩ := F.ex
  exact pe_call F hr hg hm hk hb .nil hx ha hdb he hpl
theorem pe_mt {pl : Sem Bool} (he : PE X o ta) (c : Cls X.K C) (F : Method X.prog X.w X.K X.mg X.base C m CX k ps sp) (hr : Room k X.A) (hx : Passes CX X E) (ha : PA X (e :: es) t)
    (hst : starEach (e :: es) X.env = (false, eval e X.env) :: starEach es X.env := by rfl) (hpl : (backTo pos (starEach es X.env)).any (·.1) = false := by rfl)
    (ht : eval (.Call (.Attribute o m apos) (e :: es) [] pos) X.env = (do
      let ov ← eval o X.env
      standAt apos.atName
      let (f, first) ← holding [ov] (getMethod ov m pl)
      callWith pos f first (backTo pos (starEach (e :: es) X.env)) (backToKw pos (keywordEach [] X.env))) := by rfl) :
    PE X (.Call (.Attribute o m apos) (e :: es) [] pos) (tMeth C m sp [] E ta t) := by
  obtain ⟨f, fd, F, hm, hb⟩ := F.ex
  exact pe_meth he c hm F hr hb .nil hx ha hst hpl ht
theorem pe_mt0 {pl : Sem Bool} (he : PE X o ta) (c : Cls X.K C) (F : Method X.prog X.w X.K X.mg X.base C m CX k ps sp) (hr : Room k X.A) (hx : Passes CX X E)
    (ht : eval (.Call (.Attribute o m apos) [] [] pos) X.env = (do
      let ov ← eval o X.env
      standAt apos.atName
      let (f, first) ← holding [ov] (getMethod ov m pl)
      callWith pos f first (backTo pos (starEach [] X.env)) (backToKw pos (keywordEach [] X.env))) := by rfl) :
    PE X (.Call (.Attribute o m apos) [] [] pos) (tMeth C m sp [] E ta tNil) := by
  obtain ⟨f, fd, F, hm, hb⟩ := F.ex
  exact pe_meth0 he c hm F hr hb .nil hx ht
end
end L2

namespace L2
open PySem PySem.Spec PyProof.Rows

/-! ## Unpacking of lists -/
section
variable {X : Cx}
def gLst (K : PySem.W.Frag) (n : Nat) (t : TGs) : TG := fun v σ H Q => ∃ a xs, v = .ref a ∧ SqL K H a xs ∧ xs.length = n ∧ t xs σ H Q
theorem pg_lst {es : List Expr} {k : Nat} {t : TGs} {n : Nat} {pos : Pos} (hc : X.calm = true) (h : PGs X es t)
    (hn : (assignEach es X.env).length = n := by rfl) (hst : (assignEach es X.env).findIdx? (·.1) = none := by rfl) : PG X (.Tuple es k pos) (gLst X.K n t) := by
  intro pins s σ H v u Q I r hw
  obtain ⟨a, xs, e1, hq, hl, hw⟩ := hw
  subst e1
  cases r
  obtain ⟨its, rv, p, hz⟩ := I.list hq
  rw [PyProof.Rows.assign_Tuple]
  refine wpAny_bind (wpAny_standAt ?_)
  unfold unpack
  have hsz : (assignEach es X.env).length = its.toArray.size := by simp [hn, ← hl, rv.length]
  rw [hsz, hst]
  refine wpAny_bind (wpAny_holding (PySem.W.kun_itemsOf (I.ok.hd hc) p.isList fun h' hx => ?_))
  have I1 : Inv X pins σ H { s with heap := h' } := I.kept (t' := s.toks) fun b o e => hx b o (Nat.ne_of_lt (Heap.lt_size e)) e
  exact h pins _ σ H xs _ Q I1 (by simpa using rv) hw
end
/-! ## Lists and tuples compared as data -/
mutual
inductive VD (K : PySem.W.Frag) (H : Hp) : V → PyData → Prop
  | non : VD K H .non .none
  | bl (b : Bool) : VD K H (.bl b) (.bool b)
  | int (i : Int) : VD K H (.int i) (.int i)
  | str (x : Str) : VD K H (.str x) (.str x)
  | lst {a : Addr} {xs : List V} {ds : List PyData} : SqL K H a xs → VDs K H xs ds → VD K H (.ref a) (.list ds)
  | tup {a : Addr} {xs : List V} {ds : List PyData} : SqT K H a xs → VDs K H xs ds → VD K H (.ref a) (.tuple ds)
inductive VDs (K : PySem.W.Frag) (H : Hp) : List V → List PyData → Prop
  | nil : VDs K H [] []
  | cons {x : V} {d : PyData} {xs : List V} {ds : List PyData} : VD K H x d → VDs K H xs ds → VDs K H (x :: xs) (d :: ds)
end
theorem VDs.map {K : PySem.W.Frag} {H : Hp} {α : Type} {f : α → V} {g : α → PyData} : ∀ {l : List α}, (∀ x ∈ l, VD K H (f x) (g x)) → VDs K H (l.map f) (l.map g)
  | [], _ => .nil
  | x :: l, h => .cons (h x List.mem_cons_self) (VDs.map fun y hy => h y (List.mem_cons_of_mem _ hy))
section
variable {X : Cx} {pins : List (Addr × Obj)} {σ : St} {H : Hp} {s : Shared}
mutual
theorem VD.reads (I : Inv X pins σ H s) : ∀ {v : V} {d : PyData} {u : Value}, VD X.K H v d → RelV v u → ∃ as, Reads s.heap u d as
  | _, _, _, .non, r => by cases r; exact ⟨_, .none⟩
  | _, _, _, .bl b, r => by cases r; exact ⟨_, .bool b⟩
  | _, _, _, .int i, r => by obtain ⟨t, rfl⟩ := r; exact ⟨_, .int i t⟩
  | _, _, _, .str x, r => by obtain ⟨t, rfl⟩ := r; exact ⟨_, .str x t⟩
  | _, _, _, .lst hq hs, r => by
    cases r
    obtain ⟨its, rv, ⟨o, n, e, c, _, d⟩, _⟩ := I.list hq
    obtain ⟨as, ra⟩ := VDs.reads I hs rv
    exact ⟨_, .list e c d (by simpa using ra)⟩
  | _, _, _, .tup hq hs, r => by
    cases r
    obtain ⟨its, rv, ⟨o, e, c, n, d⟩, _⟩ := I.tuple hq
    obtain ⟨as, ra⟩ := VDs.reads I hs rv
    exact ⟨_, .tuple e c d (by simpa using ra)⟩
theorem VDs.reads (I : Inv X pins σ H s) : ∀ {vs : List V} {ds : List PyData} {us : List Value}, VDs X.K H vs ds → Vals vs us → ∃ as, ReadsAll s.heap us ds as
  | _, _, _, .nil, r => by cases r; exact ⟨_, .nil⟩
  | _, _, _, .cons h hs, r => by
    cases r with
    | cons r rr =>
      obtain ⟨a1, r1⟩ := VD.reads I h r
      obtain ⟨a2, r2⟩ := VDs.reads I hs rr
      exact ⟨_, .cons r1 r2⟩
end
end
section
variable {X : Cx}
def rEqD (K : PySem.W.Frag) (neg : Bool) : R2 := fun x y H Q => ∃ d e, VD K H x d ∧ VD K H y e ∧ SeqAt.shaped d = true ∧ SeqAt.shaped e = true ∧ Q (.bl (if neg then !PyData.eqv d e else PyData.eqv d e)) H
theorem op_eqD (hu : X.A.units + 64 < cLine) : OpR X (compareOp .Eq) (rEqD X.K false) := by
  intro pins s σ H x y v u Q I rx ry h
  obtain ⟨d, e, hd, he, s1, s2, q⟩ := h
  obtain ⟨a1, r1⟩ := hd.reads I rx
  obtain ⟨a2, r2⟩ := he.reads I ry
  exact eq_dataH r1 r2 s1 s2 hu ⟨.bl _, H, I, rfl, q⟩
theorem op_neD (hu : X.A.units + 64 < cLine) : OpR X (compareOp .NotEq) (rEqD X.K true) := by
  intro pins s σ H x y v u Q I rx ry h
  obtain ⟨d, e, hd, he, s1, s2, q⟩ := h
  obtain ⟨a1, r1⟩ := hd.reads I rx
  obtain ⟨a2, r2⟩ := he.reads I ry
  exact ne_dataH r1 r2 s1 s2 hu ⟨.bl _, H, I, rfl, q⟩
/-! ## sorted -/
theorem vals_strs : ∀ {xs : List Str} {us : List Value}, StrsAre us xs → Vals (xs.map V.str) us
  | _, _, .nil => .nil
  | _, _, .cons _ t r => .cons ⟨t, rfl⟩ (vals_strs r)
theorem sorted_fin {pins : List (Addr × Obj)} {σ : St} {H : Hp} {s : Shared} {Q : VK} {vs : List Value} {out : Array Value} {ys : List V} (I : Inv X pins σ H s) (hl : ys.length ≤ sizeLine) (r : Vals ys out.toList)
    (q : Q (.ref (s.heap.objs.size + 1)) (upd H (s.heap.objs.size + 1) (.lst ys))) : EP X pins σ Q (.ref (s.heap.objs.size + 1)) { s with heap := sortedAll s.heap vs out } := by
  obtain ⟨e, he⟩ := sortedAll_at s.heap vs out
  exact ⟨.ref (s.heap.objs.size + 1), _, I.laid (t' := s.toks) (fun b o => sortedAll_old) (Nat.le_succ _) (show ObjOk X.prog X.w _ _ _ (.lst ys) from ⟨hl, out.toList, e, r, by simpa using he⟩), rfl, q⟩
theorem call_sortedI : CallR X (.builtin "sorted") (fun xs H Q => ∃ (a : Addr) (ns : List Int), xs = [V.ref a] ∧ SqL X.K H a (ns.map V.int) ∧ ns.length < 64 ∧ ∀ p (ns' : List Int), H p = none → ns'.Perm ns → ns'.Pairwise (· ≤ ·) → Q (.ref p) (upd H p (.lst (ns'.map V.int)))) := by
  intro pins s σ H xs us Q I r h
  obtain ⟨a, ns, rfl, hq, hb, q⟩ := h
  obtain ⟨u, rfl, ru⟩ := vals1 r
  cases ru
  obtain ⟨its, rv, p, hz⟩ := I.list hq
  have hl : ns.length = its.length := by have := rv.length; rwa [List.length_map] at this
  refine sorted_ints p.isList (ints_are rv) (by omega) fun out ns' a1 a2 a3 => ?_
  exact sorted_fin I (by rw [List.length_map, a2.length_eq]; exact Nat.le_trans (Nat.le_of_lt hb) (by decide)) (vals_ints a1) (q _ ns' (I.hok.fresh (Nat.le_succ _)) a2 a3)
end
end L2
namespace L2
open PySem PySem.Spec PyProof.Rows
/-! ## dicts with texts as keys -/
theorem strsAre_of : ∀ {l : List Value} {ss : List Str}, l.length = ss.length → (∀ (j : Nat) (v : Value) (x : Str), l[j]? = some v → ss[j]? = some x → ∃ t, v = .str x t) → StrsAre l ss
  | [], [], _, _ => .nil
  | v :: l, x :: ss, hl, h => by
    obtain ⟨t, rfl⟩ := h 0 v x rfl rfl
    exact .cons _ _ (strsAre_of (by simpa using hl) fun j u y e1 e2 => h (j + 1) u y (by simpa using e1) (by simpa using e2))
theorem KV.get {κ : Type} : ∀ {a : List (κ × V)} {b : List (κ × Value)} {i : Nat} {k : κ} {x : Value}, KV a b → b[i]? = some (k, x) → ∃ v, a[i]? = some (k, v) ∧ RelV v x
  | [], _, _, _, _, h, e => by cases h; simp at e
  | (k', v') :: a, _, i, k, x, h, e => by
    cases h with
    | cons r rr =>
      cases i with
      | zero =>
        simp at e
        obtain ⟨r1, r2⟩ := r
        simp only at r1
        rw [e] at r1 r2
        exact ⟨v', by rw [r1]; rfl, r2⟩
      | succ i => exact KV.get (i := i) rr (by simpa using e)
section
variable {X : Cx}
/-- sorted(d) -/
theorem call_sortedD (hc : X.calm = true) : CallR X (.builtin "sorted") (fun xs H Q => ∃ (a : Addr) (kvs : List (Key × V)) (ss : List Str), xs = [V.ref a] ∧ Rd H a (.dK kvs) ∧ kvs.map (·.1) = ss.map Sum.inr ∧ ss.length < 64 ∧
    ∀ p (ss' : List Str), H p = none → ss'.Perm ss → sortedS ss' = true → Q (.ref p) (upd H p (.lst (ss'.map V.str)))) := by
  intro pins s σ H xs us Q I r h
  obtain ⟨a, kvs, ss, rfl, hq, hk, h64, q⟩ := h
  obtain ⟨u, rfl, ru⟩ := vals1 r
  cases ru
  obtain ⟨hz, lo, vs, kv, hD⟩ := (show ObjOk X.prog X.w H s.heap a (.dK kvs) from hq.ok I.hok)
  obtain ⟨ep, hat⟩ := hD.dictAt
  have hlen : vs.length = ss.length := by
    have e1 := kv.length
    have e2 := congrArg List.length hk
    rw [List.length_map, List.length_map] at e2
    omega
  have big64 : (64 : Nat) ≤ sizeLine := by decide
  refine Calls.call_function_entry kind_sorted plain_sorted entry_sorted (args_sorted1 _) ?_
  unfold Builtin.«sorted»
  refine wpAny_bind (m := checkCount "sorted" 1 1 _) (wpAny_pure ?_)
  refine wpAny_bind (PySem.W.kdu_collect (A := X.A.in1) (PySem.W.kdl_dict (knd := mixKind X.prog X.w) (kvs := vs) (ep := ep) lo) (I.ok.hd hc) hat (by omega) fun h' tk acc hkeep hacc => ?_)
  have hl : acc.toList.length = vs.length := by rw [Array.length_toList]; exact hacc.1
  have hS : StrsAre acc.toList ss := by
    refine strsAre_of (by omega) fun j v x e1 e2 => ?_
    obtain ⟨k, y, e3, hk2⟩ := hacc.2 j v (by rw [← Array.getElem?_toList]; exact e1)
    obtain ⟨v', e4, _⟩ := kv.get e3
    have e5 : (kvs.map (·.1))[j]? = some k := by rw [List.getElem?_map, e4]; rfl
    rw [hk, List.getElem?_map, e2] at e5
    have e6 : Sum.inr x = k := Option.some.inj e5
    subst e6
    rcases keyIs_shape (show keyIs (Sum.inr x) v = true from hk2) with ⟨i, t, e, _⟩ | ⟨y, t, e, e7⟩
    · cases e
    · cases e; exact ⟨t, e7⟩
  refine wpAny_bind (wpAny_newList ?_ (by rw [hl]; omega))
  have hoL : (h'.push (seqObj "list" acc.toList.toArray 0)).get? h'.objs.size = some (seqObj "list" acc.toList.toArray 0) := Heap.get?_push_size _ rfl
  refine wpAny_bind (wpAny_holding (wpAny_call_entry slot_list_sort ⟨_, hoL, rfl⟩ entry_list_sort (list_sort_treeK strKind_oneLt hoL hS.keysOf (fun v₁ v₂ rest e => keyKind_strs (by rw [← e]; exact hS)) (by omega) fun st' hp hs => ⟨_, rfl, ?_⟩) (args_list_sort _)))
  obtain ⟨ss', a1, a2, a3⟩ := sorted_out_str hS hp hs
  refine wpAny_pure ⟨_, rfl, ?_⟩
  obtain ⟨e, he⟩ := sortedHeap_at (out := (arrOf st').map (·.2)) hoL
  have I1 : Inv X pins σ H { s with heap := h', toks := tk } := I.kept hkeep
  have I2 := Inv.laid (o := .lst (ss'.map V.str)) (a := h'.objs.size) (h' := sortedHeap (h'.push (seqObj "list" acc.toList.toArray 0)) h'.objs.size acc.toList ((arrOf st').map (·.2))) (t' := tk) I1 (fun b o hb => by
    have lt := Heap.lt_size hb
    rw [sortedHeap_old (Nat.ne_of_lt lt) (by rw [Heap.size_push]; exact Nat.lt_succ_of_lt lt)]
    exact Heap.get?_push_of_some _ hb) (Nat.le_refl _) (show ObjOk X.prog X.w _ _ _ (.lst (ss'.map V.str)) from ⟨by rw [List.length_map, a2.length_eq]; omega, _, e, vals_strs a1, by rw [Array.toArray_toList]; exact he⟩)
  exact ⟨.ref h'.objs.size, _, I2, rfl, q _ ss' (I1.hok.fresh (Nat.le_refl _)) a2 a3⟩
end
end L2

namespace L2
open PySem PySem.Spec PyProof.Rows

/-! ## Walking a dict: through the walk its record is held fast -/
section
variable {X : Cx} {pins : List (Addr × Obj)} {σ : St} {H : Hp} {s : Shared} {a : Addr} {kvs : List (Key × V)}
end
theorem kV_rel {k : Key} {v : Value} (h : keyIs k v = true) : RelV (kV k) v := by
  rcases keyIs_shape h with ⟨i, t, rfl, rfl⟩ | ⟨x, t, rfl, rfl⟩
  · exact ⟨t, rfl⟩
  · exact ⟨t, rfl⟩
section
variable {X : Cx} {tg : Expr}
end
end L2

namespace L2
open PySem PySem.Spec PyProof.Rows

/-! ## A def that the suite of a handler calls -/
structure HCallee (P : Program) (w : World) (K : PySem.W.Frag) (mg : Str → Option Value) (base : Heap) (x : Str) (k : Nat) (ps : List Str) (spf : Addr → Value → Sp) : Prop where
  ex : ∃ f fd, (∀ (e : Addr) (oe : Obj) (c : Value) (vs : Array Value), oe.cls = c ∧ oe.dict = none → oe.data = .fields vs → vs[2]? = some .none → FnOkH P w K mg base e oe k f fd ps (spf e c)) ∧
    mg x = some (.ref f) ∧ PySem.W.keepIn K (.ref f) = true ∧ Binds K fd ps []
theorem DefAt.hcallee {P : Program} {w : World} {K : PySem.W.Frag} {mg : Str → Option Value} {base : Heap} {x : Str} {st : Stmt} {N ps : List Str} {k : Nat} {spf : Addr → Value → Sp} (D : DefAt K mg x st) (S : FnScope N ps (defScope st))
    (hb : ∀ (kV doc pm : Value) (an : Option Addr) (cdv ct : Value) (us : List Value), us.length = ps.length → bindArgs (PySem.W.fnOf x x (defArgs st) (defBody st) (defScope st) .none kV doc pm an cdv ct) ⟨us, []⟩ = pure (ps.zip us))
    (len : ∀ e c vs H Q E, spf e c vs H Q E → vs.length = ps.length)
    (hbody : ∀ (f : Addr) (cdv : Value) (A : Around) (outer : List Env) (s : Shared) (H : Hp) (vs : List V) (Q : VK) (e : Addr) (oe : Obj) (c : Value) (ws : Array Value), oe.cls = c ∧ oe.dict = none → oe.data = .fields ws → QH e oe (cxH P w K mg base N x (defScope st) f cdv A outer s H e oe) → spf e c vs H Q E0 →
      ∃ t, PSs (cxH P w K mg base N x (defScope st) f cdv A outer s H e oe) (defBody st) t ∧ t { nx := fun _ H' => Q .non H', rt := Q } (start N vs) H) : HCallee P w K mg base x (k + 1) ps spf := by
  obtain ⟨f, fd, F, m⟩ := D.ex
  have hbi := F.binds hb
  obtain ⟨oc, od, kV, doc, pm, an, cdv, ct, osl, rfl, lk, hcd⟩ := id F.ex
  exact ⟨f, _, fun e oe c ws hc hd h2 => fn_ofH lk hcd S (len e c) fun A outer s H vs Q hh h => hbody f cdv A outer s H vs Q e oe c ws hc hd (cxH_q hh hd h2) h, m, F.kp, hbi⟩
section
variable {X : Cx} {f : Str} {k k' : Nat} {ps : List Str} {spf : Addr → Value → Sp} {p pos : Pos} {e : Expr} {es : List Expr} {t : TA} {x : Addr} {c : Value} {ox : Obj} {pn : List (Addr × Obj)} {vs : Array Value}
theorem pe_hand (C : HCallee X.prog X.w X.K X.mg X.base f k ps spf) (hr : Room k' X.A) (hx : x ∉ frs X.stack) (hc : ox.cls = c ∧ ox.dict = none) (hd : ox.data = .fields vs) (h2 : vs[2]? = some .none) (hk : k ≤ k') (hg : Gl X f)
    (ha : PA (cxHand X x ox pn) (e :: es) t) (hdb : (f == ("__debug__" : Str)) = false := by decide)
    (he : starEach (e :: es) X.env = (false, eval e X.env) :: starEach es X.env := by rfl) (hpl : (backTo pos (starEach es X.env)).any (·.1) = false := by rfl) : PE (cxHand X x ox pn) (.Call (.Name f p) (e :: es) [] pos) (tCall (spf x c) [] E0 t) := by
  obtain ⟨fa, fd, F, m, kp, hb⟩ := C.ex
  exact pe_callH (X := cxHand X x ox pn) (F x ox c vs hc hd h2) (Room.mark (hr.mono hk)) List.mem_cons_self hx hg m kp hb ha hdb he hpl
end
/-- C() of an own class -/
structure Maker (P : Program) (w : World) (K : PySem.W.Frag) (mg : Str → Option Value) (base : Heap) (x : Str) (C : Addr) (CX : CXT) (k : Nat) (ps : List Str) (sp : Sp) : Prop where
  ex : ∃ f fd, Mk K C f ∧ FnOk P w K mg base CX k f fd ps sp ∧ mg x = some (.ref C) ∧ Binds K fd ps []
theorem pe_mk0 {X : Cx} {x : Str} {C : Addr} {CX : CXT} {k : Nat} {ps : List Str} {sp : Sp} {E : XK} {p pos : Pos} (M : Maker X.prog X.w X.K X.mg X.base x C CX k ps sp) (hr : Room (k + 1) X.A) (hx : Passes CX X E) (hg : Gl X x) (hdb : (x == ("__debug__" : Str)) = false := by decide) :
    PE X (.Call (.Name x p) [] [] pos) (tMake C sp [] E tNil) := by
  obtain ⟨f, fd, M, F, m, b⟩ := M.ex
  exact pe_make0 M F hr hg m b .nil hx hdb
/-! ## Rules whose reading names the fragment, for contexts under binders -/
section
variable {Y : Cx}
theorem op_in_seq' (K : PySem.W.Frag) (h : Y.K = K) : OpR Y (compareOp .In) (rIn K false) := by subst h; exact op_in_seq
theorem op_notIn_seq' (K : PySem.W.Frag) (h : Y.K = K) : OpR Y (compareOp .NotIn) (rIn K true) := by subst h; exact op_notIn_seq
theorem ix_list' (K : PySem.W.Frag) (h : Y.K = K) : IxR Y (rIxL K) := by subst h; exact ix_list
theorem ix_tup' (K : PySem.W.Frag) (h : Y.K = K) : IxR Y (rIxT K) := by subst h; exact ix_tup
end
/-! ## Long lists of arguments: wrapped, so that nothing is unfolded while they are put together -/
def isStar : Expr → Bool
  | .Starred _ _ => true
  | _ => false
theorem star_cons {e : Expr} (es : List Expr) (env : Env) (h : isStar e = false) : starEach (e :: es) env = (false, eval e env) :: starEach es env := by
  cases e <;> first | rfl | cases h
structure QA (X : Cx) (es : List Expr) (t : TA) : Prop where h : PA X es t
structure QE (X : Cx) (e : Expr) (t : TE) : Prop where h : PE X e t
section
variable {X : Cx} {e : Expr} {es : List Expr} {te : TE} {t : TA} {pos : Pos}
theorem qe (h : PE X e te) : QE X e te := ⟨h⟩
theorem qa_nil : QA X [] tNil := ⟨pa_nil⟩
theorem qa_cons (ha : QE X e te) (hr : QA X es t) (h : isStar e = false := by rfl) : QA X (e :: es) (tCons te t) := ⟨pa_cons ha.h hr.h (star_cons es X.env h)⟩
theorem qe_tup {k} (h : QA X es t) : QE X (.Tuple es k pos) (tTup t) := ⟨pe_tup h.h⟩
theorem qe_lst (h : QA X es t) : QE X (.List es pos) (tLst t) := ⟨pe_lst h.h⟩
end
structure QS (X : Cx) (st : Stmt) (t : TS) : Prop where h : PS X st t
structure QSs (X : Cx) (st : List Stmt) (t : TS) : Prop where h : PSs X st t
section
variable {X : Cx} {st : Stmt} {rest : List Stmt} {t u : TS} {a b e : Expr} {ta tb te : TE} {pos : Pos}
theorem qs (h : PS X st t) : QS X st t := ⟨h⟩
theorem qss_one (h : QS X st t) : QSs X [st] t := ⟨pss_one h.h⟩
theorem qe_ix {r : R2} (hr : IxR X r) (ha : QE X a ta) (hb : QE X b tb) (hs : PlainIx b) : QE X (.Subscript a b pos) (tOp r ta tb) := ⟨pe_ix hr ha.h hb.h hs⟩
theorem qe_op {op : Operator} {r : R2} (ho : OpR X (binaryOp op) r) (ha : QE X a ta) (hb : QE X b tb) : QE X (.BinOp a op b pos) (tOp r ta tb) := ⟨pe_op ho ha.h hb.h⟩
theorem qss_cons (h : QS X st t) (hr : QSs X rest u) : QSs X (st :: rest) (tSeq t u) := ⟨pss_cons h.h hr.h⟩
theorem qss_cut (h : QS X st t) (hr : QSs X rest u) : QSs X (st :: rest) (tCut t u) := ⟨pss_cut h.h hr.h⟩
theorem qs_ret (h : QE X e te) : QS X (.Return (some e) pos) (tRet te) := ⟨ps_ret h.h⟩
theorem qs_set {i : Nat} {x : Str} {pos' : Pos} (hN : X.N.Nodup) (hi : X.N[i]? = some x) (hx : Loc X.env.scope x) (he : QE X e te) (hs : swapsWith e (some (.Name x pos')) pos.line X.env = pure false := by rfl) (hf : X.fn x = true ∨ X.env.scope.names.lookup x = some .local := by first | exact .inl rfl | exact .inr rfl | assumption) :
    QS X (.Assign [.Name x pos'] e pos) (tAsg te (gName i)) := ⟨ps_set hN hi hx he.h hs hf⟩
end
theorem DefAt.calleeQ {P : Program} {w : World} {K : PySem.W.Frag} {mg : Str → Option Value} {base : Heap} {x : Str} {st : Stmt} {N ps : List Str} {k : Nat} {sp : Sp} (D : DefAt K mg x st) (S : FnScope N ps (defScope st))
    (hb : ∀ (kV doc pm : Value) (an : Option Addr) (cdv ct : Value) (us : List Value), us.length = ps.length → bindArgs (PySem.W.fnOf x x (defArgs st) (defBody st) (defScope st) .none kV doc pm an cdv ct) ⟨us, []⟩ = pure (ps.zip us))
    (len : ∀ vs H Q E, sp vs H Q E → vs.length = ps.length)
    (hbody : ∀ (f : Addr) (cdv : Value) (A : Around) (outer : List Env) (s : Shared) (H : Hp) (vs : List V) (Q : VK) (E : XK), Room k (A.deeper (envOfC x (defScope st) s.heap.objs.size f cdv)) → sp vs H Q E →
      ∃ t, QSs (cxOf CX0 P w K mg base N x (defScope st) f cdv A outer s H E).nox (defBody st) t ∧ t { nx := fun _ H' => Q .non H', rt := Q } (start N vs) H) : Callee P w K mg base x (k + 1) ps sp :=
  D.callee S hb len fun f cdv A outer s H vs Q E hr h => let ⟨t, q, r⟩ := hbody f cdv A outer s H vs Q E hr h; ⟨t, q.h, r⟩
theorem DefAt.hcalleeQ {P : Program} {w : World} {K : PySem.W.Frag} {mg : Str → Option Value} {base : Heap} {x : Str} {st : Stmt} {N ps : List Str} {k : Nat} {spf : Addr → Value → Sp} (D : DefAt K mg x st) (S : FnScope N ps (defScope st))
    (hb : ∀ (kV doc pm : Value) (an : Option Addr) (cdv ct : Value) (us : List Value), us.length = ps.length → bindArgs (PySem.W.fnOf x x (defArgs st) (defBody st) (defScope st) .none kV doc pm an cdv ct) ⟨us, []⟩ = pure (ps.zip us))
    (len : ∀ e c vs H Q E, spf e c vs H Q E → vs.length = ps.length)
    (hbody : ∀ (f : Addr) (cdv : Value) (A : Around) (outer : List Env) (s : Shared) (H : Hp) (vs : List V) (Q : VK) (e : Addr) (oe : Obj) (c : Value) (ws : Array Value), oe.cls = c ∧ oe.dict = none → oe.data = .fields ws → QH e oe (cxH P w K mg base N x (defScope st) f cdv A outer s H e oe) → spf e c vs H Q E0 →
      ∃ t, QSs (cxH P w K mg base N x (defScope st) f cdv A outer s H e oe) (defBody st) t ∧ t { nx := fun _ H' => Q .non H', rt := Q } (start N vs) H) : HCallee P w K mg base x (k + 1) ps spf :=
  D.hcallee S hb len fun f cdv A outer s H vs Q e oe c ws hc hd hq h => let ⟨t, q, r⟩ := hbody f cdv A outer s H vs Q e oe c ws hc hd hq h; ⟨t, q.h, r⟩
theorem pe_cls {X : Cx} {x : Str} {C : Addr} {pos : Pos} (hg : Gl X x) (hm : X.mg x = some (.ref C)) (hd : (x == ("__debug__" : Str)) = false := by decide) : PE X (.Name x pos) (tC (.ref C)) := pe_glob (v := .ref C) hg hm rfl hd
/-! ## Facts of own classes from what the top has written -/
section
variable {K : PySem.W.Frag} {C D CE : Addr} {oc : Value} {od : Option Addr} {cd : ClassData} {sl : Array (Option Value)} {b : Bool}
end
/-! ## What lies outside a footprint stays -/
theorem keepL {H : Hp} {p l : Addr} {ys : List V} {o : HO} (h : H l = some (.lst ys)) (n : H p = none) : upd H p o l = some (.lst ys) := by rw [upd_ne (ne_of_none h n)]; exact h
theorem Same.lstE {H0 H : Hp} (m : Same H0 H) {o : HO} {p : Addr} (n : H p = none) : Same H0 (upd H p o) ∧ upd H p o p = some o := ⟨m.put (m.free n), upd_same⟩
end L2

namespace L2
open PySem PySem.Spec PyProof.Rows
/-! ### small facts -/
theorem at_get {ns : List Int} {k : Int} (h0 : 0 ≤ k) (h : k < (ns.length : Int)) : atI (ns.map V.int) k = some (V.int (ns.getD k.toNat 0)) := by
  have hk : k.toNat < ns.length := by omega
  have e : ((k.toNat : Nat) : Int) = k := by omega
  rw [← e]
  refine atI_nat ?_
  rw [List.getElem?_map, List.getD_eq_getElem?_getD, Int.toNat_natCast, List.getElem?_eq_getElem hk]
  rfl
theorem getD_big {ns : List Int} {k : Int} (h : ¬ k < (ns.length : Int)) : ns.getD k.toNat 0 = 0 := by
  rw [List.getD_eq_getElem?_getD, List.getElem?_eq_none (by omega)]
  rfl
theorem txt_len {x : Str} : x.cps.toList.length = x.length := by simp [Str.length]
theorem sizeBig : 1000 ≤ sizeLine := by decide
theorem big {n : Nat} (h : n ≤ 1000) : n ≤ sizeLine := Nat.le_trans h sizeBig
theorem bigr {n : Nat} (h : Nat.ble n 1000 = true) : n ≤ sizeLine := big (Nat.le_of_ble_eq_true h)
theorem p2 : (0 : Int) < 2 := by decide
theorem p6 : (0 : Int) < 6 := by decide
theorem len_app (x y : Str) : (x ++ y).length = x.length + y.length := by
  have := congrArg List.length (PySem.W.KT.app_list x y)
  rw [List.length_append, txt_len, txt_len, txt_len] at this
  exact this
theorem len_one (c : Nat) : (⟨#[c]⟩ : Str).length = 1 := rfl
theorem dec_ii {a b : Int} : decide (V.int a = V.int b) = decide (a = b) := by
  rw [decide_eq_decide]
  exact ⟨fun h => by injection h, fun h => by rw [h]⟩
theorem range_int {i n : Nat} {lo : Int} {x : V} (h : ((List.range n).map fun i => V.int (lo + ((i : Nat) : Int)))[i]? = some x) : i < n ∧ x = V.int (lo + ((i : Nat) : Int)) := by
  have hi : i < n := by
    have := (List.getElem?_eq_some_iff.mp h).1
    simpa using this
  rw [List.getElem?_map, List.getElem?_range hi] at h
  cases h
  exact ⟨hi, rfl⟩
/-! ### names -/
def small (c : Nat) : Bool := decide (97 ≤ c) && decide (c ≤ 122)
def isName (x : Str) : Bool := (decide (1 ≤ x.length) && decide (x.length ≤ 6)) && x.cps.toList.all small
def abc : Str := Str.ofString "abcdefghijklmnopqrstuvwxyz"
theorem abc_list : abc.cps.toList = (List.range 26).map (97 + ·) := by decide +kernel
theorem abc_len : abc.length = 26 := by decide +kernel
theorem abc_at {k : Int} (h0 : 0 ≤ k) (h : k < 26) : ∃ c, atI abc.cps.toList k = some c ∧ small c = true := by
  have e : ((k.toNat : Nat) : Int) = k := by omega
  refine ⟨97 + k.toNat, ?_, ?_⟩
  · rw [← e]
    refine atI_nat ?_
    rw [abc_list, List.getElem?_map, List.getElem?_range (by omega), Int.toNat_natCast]
    rfl
  · unfold small
    rw [decide_eq_true (by omega : 97 ≤ 97 + k.toNat), decide_eq_true (by omega : 97 + k.toNat ≤ 122)]
    rfl
theorem name_of {x : Str} (h1 : 1 ≤ x.length) (h2 : x.length ≤ 6) (h3 : x.cps.toList.all small = true) : isName x = true := by
  unfold isName
  rw [decide_eq_true h1, decide_eq_true h2, h3]
  rfl
theorem name_one {c : Nat} (h : small c = true) : isName ⟨#[c]⟩ = true := name_of (by rw [len_one]; decide) (by rw [len_one]; decide) (by simp [h])
theorem name_len {x : Str} (h : isName x = true) : 1 ≤ x.length ∧ x.length ≤ 6 := by
  unfold isName at h
  simp only [Bool.and_eq_true, decide_eq_true_eq] at h
  exact h.1
theorem app_list (x y : Str) : (x ++ y).cps.toList = x.cps.toList ++ y.cps.toList := PySem.W.KT.app_list x y
theorem nodup_le {α : Type} [DecidableEq α] : ∀ {l m : List α}, l.Nodup → (∀ x ∈ l, x ∈ m) → l.length ≤ m.length
  | [], _, _, _ => Nat.zero_le _
  | x :: l, m, hn, h => by
    have hx := h x List.mem_cons_self
    have hn := List.nodup_cons.mp hn
    have ih := nodup_le (m := m.erase x) hn.2 fun y hy => (List.mem_erase_of_ne (fun z : y = x => hn.1 (by rw [← z]; exact hy))).mpr (h y (List.mem_cons_of_mem _ hy))
    have e := List.length_erase_of_mem hx
    have := List.length_pos_of_mem hx
    rw [List.length_cons]
    omega
theorem in_strs (x : Str) (us : List Str) : inV (V.str x) (us.map V.str) = decide (x ∈ us) := by
  unfold inV
  rw [List.any_map, Bool.eq_iff_iff, List.any_eq_true, decide_eq_true_eq]
  constructor
  · rintro ⟨y, hy, e⟩
    have e' : (y == x) = true := e
    rw [← eq_of_beq e']; exact hy
  · intro h
    exact ⟨x, h, beq_self_eq_true x⟩
theorem flat_strs (us : List Str) : (us.map V.str).all flatV = true := by
  rw [List.all_map, List.all_eq_true]
  intro x _
  rfl
theorem spare_some (us : List Str) (h : us.length ≤ 25) : ∃ c ∈ abc.cps.toList, (⟨#[c]⟩ : Str) ∉ us := by
  apply Classical.byContradiction
  intro hn
  have hall : ∀ y ∈ abc.cps.toList.map (fun c => (⟨#[c]⟩ : Str)), y ∈ us := fun y hy => by
    obtain ⟨c, hc, rfl⟩ := List.mem_map.mp hy
    exact Classical.byContradiction fun z => hn ⟨c, hc, z⟩
  have nd : (abc.cps.toList.map (fun c => (⟨#[c]⟩ : Str))).Nodup := by
    rw [abc_list, List.map_map]
    decide +kernel
  have := nodup_le nd hall
  rw [List.length_map, txt_len, abc_len] at this
  omega
theorem abc_small {c : Nat} (h : c ∈ abc.cps.toList) : small c = true := by
  rw [abc_list] at h
  obtain ⟨i, hi, rfl⟩ := List.mem_map.mp h
  have := List.mem_range.mp hi
  unfold small
  rw [decide_eq_true (by omega : 97 ≤ 97 + i), decide_eq_true (by omega : 97 + i ≤ 122)]
  rfl
/-! ### numbers that differ -/
theorem dedup_len : ∀ (ns acc : List Int), (ns.foldl step_dedup acc).length ≤ acc.length + ns.length ∧ (acc.Nodup → ((ns.foldl step_dedup acc).length = acc.length + ns.length ↔ (acc ++ ns).Nodup))
  | [], acc => ⟨by simp, fun h => by simp [h]⟩
  | n :: ns, acc => by
    rw [List.foldl_cons]
    by_cases hm : n ∈ acc
    · have e : step_dedup acc n = acc := by
        unfold step_dedup
        rw [if_pos (List.any_eq_true.mpr ⟨n, hm, by simp⟩)]
      rw [e]
      have ih := dedup_len ns acc
      refine ⟨by have := ih.1; rw [List.length_cons]; omega, fun _ => ⟨fun z => ?_, fun z => ?_⟩⟩
      · have := ih.1
        rw [List.length_cons] at z
        omega
      · exact absurd rfl ((List.nodup_append.mp z).2.2 n hm n List.mem_cons_self)
    · have e : step_dedup acc n = acc ++ [n] := by
        unfold step_dedup
        rw [if_neg]
        intro z
        obtain ⟨x, hx, ex⟩ := List.any_eq_true.mp z
        have : x = n := by simpa using ex
        subst this
        exact hm hx
      rw [e]
      have ih := dedup_len ns (acc ++ [n])
      rw [List.length_append, List.length_singleton, List.append_assoc] at ih
      refine ⟨by have := ih.1; rw [List.length_cons]; omega, fun h => ?_⟩
      have hn : (acc ++ [n]).Nodup := by
        refine List.nodup_append.mpr ⟨h, by simp, fun a ha b hb => ?_⟩
        have : b = n := by simpa using hb
        subst this
        intro z
        subst z
        exact hm ha
      have := ih.2 hn
      rw [List.length_cons]
      rw [show acc.length + (ns.length + 1) = acc.length + 1 + ns.length by omega]
      exact this
theorem many_eq (ns : List Int) : many ns = (ns.foldl step_dedup []).length := by
  unfold many firstMet
  congr 2
  apply List.ext_getElem?
  intro i
  rw [List.getElem?_map]
  by_cases h : i < ns.length
  · rw [List.getElem?_range h]
    simp [List.getD_eq_getElem?_getD, h]
  · rw [List.getElem?_eq_none (by simpa using h), List.getElem?_eq_none (by simpa using h)]
    rfl
theorem many_nodup (ns : List Int) : many ns = ns.length ↔ ns.Nodup := by
  rw [many_eq]
  have := (dedup_len ns []).2 List.nodup_nil
  simpa using this
def inR (t : Int) : Bool := decide (0 ≤ t) && decide (t ≤ 7)
def areTeeth (ts : List Int) : Bool := decide (0 ∈ ts) && (decide (many ts = ts.length) && ts.all inR)
theorem in_zero (ts : List Int) : inV (V.int 0) (ts.map V.int) = decide (0 ∈ ts) := by
  unfold inV
  rw [List.any_map, Bool.eq_iff_iff, List.any_eq_true, decide_eq_true_eq]
  constructor
  · rintro ⟨x, hx, e⟩
    have : x = 0 := by
      have e' : (x == 0) = true := e
      exact eq_of_beq e'
    rw [← this]; exact hx
  · intro h
    exact ⟨0, h, rfl⟩
theorem flats (ts : List Int) : (ts.map V.int).all flatV = true := by
  rw [List.all_map, List.all_eq_true]
  intro x _
  rfl
/-! ### drawn combs -/
def KindsL (G : Addr → Prop) (H : Hp) : List V → List (Str × List Int) → Prop
  | [], [] => True
  | v :: vs, k :: ks => (∃ q t, v = .ref q ∧ H q = some (.lst [.str k.1, .ref t]) ∧ H t = some (.lst (k.2.map V.int)) ∧ G q ∧ G t) ∧ KindsL G H vs ks
  | _, _ => False
theorem KindsL.mono {G G' : Addr → Prop} {H H' : Hp} (s : ∀ a o, G a → H a = some o → H' a = some o) (g : ∀ a, G a → G' a) : ∀ {vs : List V} {ks : List (Str × List Int)}, KindsL G H vs ks → KindsL G' H' vs ks
  | [], [], _ => trivial
  | _ :: _, _ :: _, ⟨⟨q, t, e, h1, h2, g1, g2⟩, r⟩ => ⟨⟨q, t, e, s _ _ g1 h1, s _ _ g2 h2, g _ g1, g _ g2⟩, KindsL.mono s g r⟩
  | [], _ :: _, h => h.elim
  | _ :: _, [], h => h.elim
theorem KindsL.same {G : Addr → Prop} {H H' : Hp} {vs : List V} {ks : List (Str × List Int)} (s : Same H H') (h : KindsL G H vs ks) : KindsL G H' vs ks := h.mono (fun a o _ e => s a o e) fun _ g => g
theorem KindsL.upd {G : Addr → Prop} {H : Hp} {p : Addr} {o : HO} {vs : List V} {ks : List (Str × List Int)} (h : KindsL G H vs ks) (n : ¬ G p) : KindsL G (upd H p o) vs ks := h.mono (fun a u g e => by rw [upd_ne (fun z : a = p => n (by rw [← z]; exact g))]; exact e) fun _ g => g
theorem KindsL.snoc {G : Addr → Prop} {H : Hp} {q t : Addr} {k : Str × List Int} (h1 : H q = some (.lst [.str k.1, .ref t])) (h2 : H t = some (.lst (k.2.map V.int))) (g1 : G q) (g2 : G t) : ∀ {vs : List V} {ks : List (Str × List Int)}, KindsL G H vs ks → KindsL G H (vs ++ [.ref q]) (ks ++ [k])
  | [], [], _ => ⟨⟨q, t, rfl, h1, h2, g1, g2⟩, trivial⟩
  | _ :: _, _ :: _, ⟨a, b⟩ => ⟨a, KindsL.snoc h1 h2 g1 g2 b⟩
  | [], _ :: _, x => x.elim
  | _ :: _, [], x => x.elim
theorem KindsL.length {G : Addr → Prop} {H : Hp} : ∀ {vs : List V} {ks : List (Str × List Int)}, KindsL G H vs ks → vs.length = ks.length
  | [], [], _ => rfl
  | _ :: _, _ :: _, ⟨_, b⟩ => by rw [List.length_cons, List.length_cons, KindsL.length b]
  | [], _ :: _, x => x.elim
  | _ :: _, [], x => x.elim
theorem KindsL.get {G : Addr → Prop} {H : Hp} : ∀ {vs : List V} {ks : List (Str × List Int)} {i : Nat} {v : V}, KindsL G H vs ks → vs[i]? = some v → ∃ k q t, ks[i]? = some k ∧ v = .ref q ∧ H q = some (.lst [.str k.1, .ref t]) ∧ H t = some (.lst (k.2.map V.int))
  | [], [], _, _, _, e => by simp at e
  | _ :: _, k :: _, 0, _, ⟨⟨q, t, e, h1, h2, _⟩, _⟩, z => by
    simp at z
    subst z
    exact ⟨k, q, t, rfl, e, h1, h2⟩
  | _ :: _, _ :: _, i + 1, _, ⟨_, b⟩, z => by
    obtain ⟨k, q, t, h⟩ := KindsL.get (i := i) b (by simpa using z)
    exact ⟨k, q, t, by simpa using h⟩
  | [], _ :: _, _, _, x, _ => x.elim
  | _ :: _, [], _, _, x, _ => x.elim
/-- rising teeth from 0 to 7, 0 among them -/
def GT (ts : List Int) : Prop := ∃ f : Nat → Bool, ts = ((List.range 8).filter f).map (fun i => ((i : Nat) : Int)) ∧ f 0 = true
structure Drawn (G : Addr → Prop) (H : Hp) (vs : List V) (ks : List (Str × List Int)) : Prop where
  rows : KindsL G H vs ks
  nd : (ks.map (·.1)).Nodup
  good : ∀ k ∈ ks, isName k.1 = true ∧ GT k.2
theorem Drawn.same {G : Addr → Prop} {H H' : Hp} {vs : List V} {ks : List (Str × List Int)} (d : Drawn G H vs ks) (s : Same H H') : Drawn G H' vs ks := ⟨d.rows.same s, d.nd, d.good⟩
theorem Drawn.upd {G : Addr → Prop} {H : Hp} {p : Addr} {o : HO} {vs : List V} {ks : List (Str × List Int)} (d : Drawn G H vs ks) (n : ¬ G p) : Drawn G (upd H p o) vs ks := ⟨d.rows.upd n, d.nd, d.good⟩
theorem Drawn.any {G : Addr → Prop} {H : Hp} {vs : List V} {ks : List (Str × List Int)} (d : Drawn G H vs ks) : Drawn (fun _ => True) H vs ks := ⟨d.rows.mono (fun _ _ _ e => e) fun _ _ => trivial, d.nd, d.good⟩
theorem Drawn.snoc {G : Addr → Prop} {H : Hp} {vs : List V} {ks : List (Str × List Int)} {q t : Addr} {k : Str × List Int} (d : Drawn G H vs ks) (h1 : H q = some (.lst [.str k.1, .ref t])) (h2 : H t = some (.lst (k.2.map V.int))) (g1 : G q) (g2 : G t) (hn : k.1 ∉ ks.map (·.1)) (hk : isName k.1 = true ∧ GT k.2) : Drawn G H (vs ++ [.ref q]) (ks ++ [k]) := by
  refine ⟨KindsL.snoc h1 h2 g1 g2 d.rows, ?_, fun x hx => ?_⟩
  · rw [List.map_append]
    refine List.nodup_append.mpr ⟨d.nd, by simp, fun a ha b hb => ?_⟩
    have e : b = k.1 := by simpa using hb
    rw [e]
    exact fun z => hn (z ▸ ha)
  · rcases List.mem_append.mp hx with z | z
    · exact d.good x z
    · rw [List.mem_singleton.mp z]; exact hk
end L2

namespace L2
open PySem PySem.Spec PyProof.Rows

/-! ## Combs as data -/
abbrev Combs := List (Str × List Int)
def cGet (cs : Combs) (x : Str) : Option (List Int) := (cs.find? fun c => decide (c.1 = x)).map (·.2)
def cPut (cs : Combs) (x : Str) (ts : List Int) : Combs := if (cs.any fun c => decide (c.1 = x)) = true then cs.map (fun c => if c.1 = x then (c.1, ts) else c) else cs ++ [(x, ts)]
/-- a list of teeth, rising -/
def canon (ts : List Int) : List Int := ((List.range 8).filter fun i => decide (((i : Nat) : Int) ∈ ts)).map fun i => ((i : Nat) : Int)
theorem map_lt (f : Nat → Bool) : (((List.range 8).filter f).map fun i => ((i : Nat) : Int)).Pairwise (· < ·) := by
  rw [List.pairwise_map]
  refine List.Pairwise.sublist List.filter_sublist ?_
  refine List.Pairwise.imp ?_ (List.pairwise_lt_range (n := 8))
  intro a b h
  omega
theorem canon_lt (ts : List Int) : (canon ts).Pairwise (· < ·) := map_lt _
theorem mem_canon {ts : List Int} {t : Int} : t ∈ canon ts ↔ t ∈ ts ∧ 0 ≤ t ∧ t ≤ 7 := by
  unfold canon
  simp only [List.mem_map, List.mem_filter, List.mem_range, decide_eq_true_eq]
  constructor
  · rintro ⟨i, ⟨hi, hm⟩, rfl⟩
    exact ⟨hm, by omega, by omega⟩
  · rintro ⟨hm, h0, h7⟩
    refine ⟨t.toNat, ⟨by omega, ?_⟩, by omega⟩
    rwa [show ((t.toNat : Nat) : Int) = t by omega]
theorem nodup_lt {l : List Int} (h : l.Pairwise (· < ·)) : l.Nodup := h.imp fun h => by omega
theorem canon_nodup (ts : List Int) : (canon ts).Nodup := nodup_lt (canon_lt ts)
theorem same_sorted {a b : List Int} (hp : a.Perm b) (ha : a.Pairwise (· ≤ ·)) (hb : b.Pairwise (· ≤ ·)) : a = b :=
  hp.eq_of_pairwise (fun x y _ _ h1 h2 => Int.le_antisymm h1 h2) ha hb
theorem canon_of {ns ts : List Int} (hp : ns.Perm ts) (hs : ns.Pairwise (· ≤ ·)) (hn : ts.Nodup) (hr : ∀ t ∈ ts, 0 ≤ t ∧ t ≤ 7) : ns = canon ts := by
  refine same_sorted (hp.trans ?_) hs ((canon_lt ts).imp fun h => by omega)
  rw [List.perm_ext_iff_of_nodup hn (canon_nodup ts)]
  intro t
  rw [mem_canon]
  exact ⟨fun h => ⟨h, hr t h⟩, fun h => h.1⟩
theorem gt_lt {ts : List Int} (h : GT ts) : ts.Pairwise (· < ·) := by
  obtain ⟨f, rfl, _⟩ := h
  exact map_lt f
theorem gt_in {ts : List Int} (h : GT ts) : ∀ t ∈ ts, 0 ≤ t ∧ t ≤ 7 := by
  obtain ⟨f, rfl, _⟩ := h
  intro t ht
  obtain ⟨i, hi, rfl⟩ := List.mem_map.mp ht
  have := List.mem_range.mp (List.mem_filter.mp hi).1
  omega
theorem gt_zero {ts : List Int} (h : GT ts) : (0 : Int) ∈ ts := by
  obtain ⟨f, rfl, h0⟩ := h
  exact List.mem_map.mpr ⟨0, List.mem_filter.mpr ⟨by decide, h0⟩, rfl⟩
theorem gt_canon {ts : List Int} (h0 : (0 : Int) ∈ ts) : GT (canon ts) := ⟨_, rfl, decide_eq_true h0⟩
theorem gt_eq {ts : List Int} (h : GT ts) : canon ts = ts := by
  symm
  refine canon_of (List.Perm.refl _) ((gt_lt h).imp fun h => by omega) (nodup_lt (gt_lt h)) (gt_in h)
theorem gt_len {ts : List Int} (h : GT ts) : ts.length ≤ 8 := by
  obtain ⟨f, rfl, _⟩ := h
  rw [List.length_map]
  exact Nat.le_trans (List.length_filter_le _ _) (by simp)
theorem canon_len (ts : List Int) : (canon ts).length ≤ 8 := by
  unfold canon
  rw [List.length_map]
  exact Nat.le_trans (List.length_filter_le _ _) (by simp)
theorem inR_iff {t : Int} : inR t = true ↔ 0 ≤ t ∧ t ≤ 7 := by unfold inR; simp
theorem teeth_iff {ts : List Int} : areTeeth ts = true ↔ (0 : Int) ∈ ts ∧ ts.Nodup ∧ ∀ t ∈ ts, 0 ≤ t ∧ t ≤ 7 := by
  unfold areTeeth
  simp only [Bool.and_eq_true, decide_eq_true_eq, many_nodup, List.all_eq_true, inR_iff]
theorem teeth_len {ts : List Int} (hn : ts.Nodup) (hr : ∀ t ∈ ts, 0 ≤ t ∧ t ≤ 7) : ts.length ≤ 8 := by
  have : ts.length ≤ (canon ts).length := nodup_le hn fun x hx => mem_canon.mpr ⟨hx, hr x hx⟩
  have := canon_len ts
  omega
theorem gt_teeth {ts : List Int} (h : GT ts) : areTeeth ts = true := teeth_iff.mpr ⟨gt_zero h, nodup_lt (gt_lt h), gt_in h⟩
/-- what a book holds -/
structure Good (cs : Combs) : Prop where
  len : cs.length ≤ 8
  nd : (cs.map (·.1)).Nodup
  ok : ∀ c ∈ cs, isName c.1 = true ∧ GT c.2
theorem good_nil : Good [] := ⟨by decide, List.nodup_nil, by simp⟩
theorem get_mem {cs : Combs} {x : Str} {ts : List Int} (h : cGet cs x = some ts) : (x, ts) ∈ cs := by
  unfold cGet at h
  obtain ⟨c, hc, rfl⟩ := Option.map_eq_some_iff.mp h
  have h1 := List.mem_of_find?_eq_some hc
  have h2 : c.1 = x := by simpa using List.find?_some hc
  rw [← h2]
  exact h1
theorem get_none {cs : Combs} {x : Str} : cGet cs x = none ↔ x ∉ cs.map (·.1) := by
  unfold cGet
  rw [Option.map_eq_none_iff, List.find?_eq_none]
  simp only [decide_eq_true_eq, List.mem_map, not_exists, not_and]
theorem any_get {cs : Combs} {x : Str} : (cs.any fun c => decide (c.1 = x)) = (cGet cs x).isSome := by
  rw [Bool.eq_iff_iff, List.any_eq_true, Option.isSome_iff_ne_none, ne_eq, get_none, Classical.not_not, List.mem_map]
  simp
theorem get_cons {c : Str × List Int} {cs : Combs} {x : Str} : cGet (c :: cs) x = if c.1 = x then some c.2 else cGet cs x := by
  unfold cGet
  rw [List.find?_cons]
  by_cases h : c.1 = x
  · simp [h]
  · simp [h]
theorem put_new {cs : Combs} {x : Str} {ts : List Int} (h : cGet cs x = none) : cPut cs x ts = cs ++ [(x, ts)] := by
  unfold cPut
  rw [any_get, h]
  rfl
theorem put_old {cs : Combs} {x : Str} {ts us : List Int} (h : cGet cs x = some us) : cPut cs x ts = cs.map (fun c => if c.1 = x then (c.1, ts) else c) := by
  unfold cPut
  rw [any_get, h]
  rfl
theorem put_keys {cs : Combs} {x : Str} {ts us : List Int} (h : cGet cs x = some us) : (cPut cs x ts).map (·.1) = cs.map (·.1) := by
  rw [put_old h, List.map_map]
  apply List.map_congr_left
  intro c _
  show (if c.1 = x then (c.1, ts) else c).1 = c.1
  split <;> rfl
theorem Good.put {cs : Combs} {x : Str} {ts : List Int} (g : Good cs) (hx : isName x = true) (ht : GT ts) (hl : cs.length < 8 ∨ (cGet cs x).isSome = true) : Good (cPut cs x ts) := by
  cases e : cGet cs x with
  | none =>
    rw [put_new e]
    refine ⟨?_, ?_, ?_⟩
    · rw [e] at hl
      rw [List.length_append, List.length_singleton]
      rcases hl with h | h
      · omega
      · cases h
    · rw [List.map_append]
      exact nd_snoc g.nd (get_none.mp e)
    · intro c hc
      rcases List.mem_append.mp hc with h | h
      · exact g.ok c h
      · rw [List.mem_singleton.mp h]; exact ⟨hx, ht⟩
  | some us =>
    refine ⟨?_, by rw [put_keys e]; exact g.nd, ?_⟩
    · rw [put_old e, List.length_map]; exact g.len
    · rw [put_old e]
      intro c hc
      obtain ⟨c0, h0, rfl⟩ := List.mem_map.mp hc
      split
      · exact ⟨(g.ok c0 h0).1, ht⟩
      · exact g.ok c0 h0
/-! ## A book on the heap -/
def KvR (G : Addr → Prop) (H : Hp) : List (Key × V) → Combs → Prop := Paired fun kv c => ∃ t, kv = (Sum.inr c.1, V.ref t) ∧ H t = some (.lst (c.2.map V.int)) ∧ G t
def DictR (G : Addr → Prop) (H : Hp) (d : Addr) (cs : Combs) : Prop := G d ∧ ∃ kvs, H d = some (.dK kvs) ∧ KvR G H kvs cs
theorem KvR.mono {G G' : Addr → Prop} {H H' : Hp} {kvs : List (Key × V)} {cs : Combs} (s : ∀ a o, G a → H a = some o → H' a = some o) (g : ∀ a, G a → G' a) (h : KvR G H kvs cs) : KvR G' H' kvs cs :=
  Paired.mono (fun _ _ ⟨t, e, h1, g1⟩ => ⟨t, e, s _ _ g1 h1, g _ g1⟩) h
theorem DictR.mono {G G' : Addr → Prop} {H H' : Hp} {d : Addr} {cs : Combs} (s : ∀ a o, G a → H a = some o → H' a = some o) (g : ∀ a, G a → G' a) (h : DictR G H d cs) : DictR G' H' d cs :=
  let ⟨g0, kvs, e, r⟩ := h
  ⟨g _ g0, kvs, s _ _ g0 e, r.mono s g⟩
theorem KvR.keys {G : Addr → Prop} {H : Hp} : ∀ {kvs : List (Key × V)} {cs : Combs}, KvR G H kvs cs → kvs.map (·.1) = (cs.map (·.1)).map Sum.inr
  | _, _, .nil => rfl
  | _, _, .cons ⟨t, e, _⟩ r => by
    subst e
    show _ :: _ = _ :: _
    rw [show List.map _ _ = _ from KvR.keys r]
theorem KvR.val {G : Addr → Prop} {H : Hp} {x : Str} : ∀ {kvs : List (Key × V)} {cs : Combs}, KvR G H kvs cs →
    (cGet cs x = none ∧ valV kvs (Sum.inr x) = none) ∨ ∃ ts t, cGet cs x = some ts ∧ valV kvs (Sum.inr x) = some (.ref t) ∧ H t = some (.lst (ts.map V.int)) ∧ G t
  | _, _, .nil => .inl ⟨rfl, rfl⟩
  | _, _, .cons (b := c) ⟨t, e, h1, g1⟩ r => by
    subst e
    by_cases h : c.1 = x
    · refine .inr ⟨c.2, t, by rw [get_cons, if_pos h], valV_pos (by rw [h]), h1, g1⟩
    · have hn : ¬ ((Sum.inr c.1 : Key) = Sum.inr x) := fun z => h (Sum.inr.inj z)
      rcases KvR.val (x := x) r with ⟨e1, e2⟩ | ⟨ts, t', e1, e2, e3⟩
      · exact .inl ⟨by rw [get_cons, if_neg h]; exact e1, by rw [valV_neg hn]; exact e2⟩
      · exact .inr ⟨ts, t', by rw [get_cons, if_neg h]; exact e1, by rw [valV_neg hn]; exact e2, e3⟩
theorem KvR.some {G : Addr → Prop} {H : Hp} {kvs : List (Key × V)} {cs : Combs} {x : Str} (r : KvR G H kvs cs) : (valV kvs (Sum.inr x)).isSome = (cGet cs x).isSome := by
  rcases r.val (x := x) with ⟨e1, e2⟩ | ⟨ts, t', e1, e2, e3⟩
  · rw [e1, e2]; rfl
  · rw [e1, e2]; rfl
theorem KvR.map {G : Addr → Prop} {H : Hp} {x : Str} {t : Addr} {ts : List Int} (h1 : H t = .some (.lst (ts.map V.int))) (g1 : G t) : ∀ {kvs : List (Key × V)} {cs : Combs}, KvR G H kvs cs →
    KvR G H (kvs.map fun kv => if kv.1 = Sum.inr x then (kv.1, V.ref t) else kv) (cs.map fun c => if c.1 = x then (c.1, ts) else c)
  | _, _, .nil => .nil
  | _, _, .cons (b := c) ⟨t', e, h2, g2⟩ r => by
    subst e
    refine .cons ?_ (KvR.map h1 g1 r)
    dsimp only
    by_cases hx : c.1 = x
    · rw [if_pos hx, if_pos (by rw [hx])]
      exact ⟨t, rfl, h1, g1⟩
    · rw [if_neg hx, if_neg (fun z => hx (Sum.inr.inj z))]
      exact ⟨t', rfl, h2, g2⟩
theorem KvR.put {G : Addr → Prop} {H : Hp} {kvs : List (Key × V)} {cs : Combs} {x : Str} {t : Addr} {ts : List Int} (r : KvR G H kvs cs) (h1 : H t = .some (.lst (ts.map V.int))) (g1 : G t) : KvR G H (putK kvs (Sum.inr x) (.ref t)) (cPut cs x ts) := by
  unfold putK cPut
  rw [valV_any, any_get, r.some]
  split
  · exact r.map h1 g1
  · exact Paired.snoc r ⟨t, rfl, h1, g1⟩
abbrev PastR (G : Addr → Prop) (H : Hp) : List V → List Combs → Prop := Paired fun v cs => ∃ d, v = .ref d ∧ DictR G H d cs
/-- b: the book, l: its list of what was; G: the dicts and the lists of teeth, which no deed changes -/
structure Bk (C : Addr) (G : Addr → Prop) (H : Hp) (b l : Addr) (cs : Combs) (past : List Combs) : Prop where
  live : ∀ x, G x → H x ≠ none
  nb : ¬ G b
  nl : ¬ G l
  ins : ∃ dx d, H b = some (.ins C dx [("combs", .ref d), ("past", .ref l)]) ∧ DictR G H d cs
  lst : ∃ vs, H l = some (.lst vs) ∧ PastR G H vs past
  good : Good cs
  goods : ∀ p ∈ past, Good p
  few : past.length ≤ 300
theorem Bk.move {C : Addr} {G : Addr → Prop} {H H' : Hp} {b l : Addr} {cs : Combs} {past : List Combs} (B : Bk C G H b l cs past) (s : ∀ a o, G a ∨ a = b ∨ a = l → H a = some o → H' a = some o) : Bk C G H' b l cs past := by
  have s' : ∀ a o, G a → H a = some o → H' a = some o := fun a o g e => s a o (.inl g) e
  obtain ⟨dx, d, e1, r1⟩ := B.ins
  obtain ⟨vs, e2, r2⟩ := B.lst
  refine ⟨fun x g => ?_, B.nb, B.nl, ⟨dx, d, s _ _ (.inr (.inl rfl)) e1, r1.mono s' fun _ g => g⟩, ⟨vs, s _ _ (.inr (.inr rfl)) e2, ?_⟩, B.good, B.goods, B.few⟩
  · have := B.live x g
    cases e : H x with
    | none => exact absurd e this
    | some o => rw [s' x o g e]; simp
  · exact Paired.mono (fun _ _ ⟨d, e, r⟩ => ⟨d, e, r.mono s' fun _ g => g⟩) r2
theorem Bk.same {C : Addr} {G : Addr → Prop} {H H' : Hp} {b l : Addr} {cs : Combs} {past : List Combs} (B : Bk C G H b l cs past) (s : Same H H') : Bk C G H' b l cs past := B.move fun a o _ e => s a o e
theorem Bk.liveB {C : Addr} {G : Addr → Prop} {H : Hp} {b l : Addr} {cs : Combs} {past : List Combs} (B : Bk C G H b l cs past) : H b ≠ none ∧ H l ≠ none := by
  obtain ⟨dx, d, e1, r1⟩ := B.ins
  obtain ⟨vs, e2, r2⟩ := B.lst
  exact ⟨by rw [e1]; simp, by rw [e2]; simp⟩
/-- a deed's move -/
structure Mv (b l : Addr) (G G' : Addr → Prop) (H H' : Hp) : Prop where
  keep : ∀ a o, H a = some o → a ≠ b → a ≠ l → H' a = some o
  on : ∀ a, H a ≠ none → H' a ≠ none
  new : ∀ a, G' a → G a ∨ H a = none
theorem live_same {H H' : Hp} (s : Same H H') : ∀ a, H a ≠ none → H' a ≠ none := fun a h => by
  cases e : H a with
  | none => exact absurd e h
  | some o => rw [s a o e]; simp
theorem Mv.ofSame {b l : Addr} {G : Addr → Prop} {H H' : Hp} (s : Same H H') : Mv b l G G H H' := ⟨fun a o e _ _ => s a o e, live_same s, fun _ g => .inl g⟩
theorem Mv.trans {b l : Addr} {G G1 G2 : Addr → Prop} {H H1 H2 : Hp} (m : Mv b l G G1 H H1) (m' : Mv b l G1 G2 H1 H2) : Mv b l G G2 H H2 := by
  refine ⟨fun a o e n1 n2 => m'.keep a o (m.keep a o e n1 n2) n1 n2, fun a h => m'.on a (m.on a h), fun a g => ?_⟩
  rcases m'.new a g with g1 | e
  · exact m.new a g1
  · refine .inr ?_
    cases q : H a with
    | none => rfl
    | some o => exact absurd e (m.on a (by rw [q]; simp))
/-- what a deed promises, by what is reckoned: the number of the refusal, or the new combs -/
def Deed (ea : Nat → Addr) (C : Addr) (G : Addr → Prop) (H : Hp) (b l : Addr) (cs : Combs) (past : List Combs) (Q : VK) (E : XK) : Except Nat Combs → Prop
  | .error j => ∀ H', Same H H' → E (.ref (ea j)) none H'
  | .ok cs' => ∀ H' G', Mv b l G G' H H' → Bk C G' H' b l cs' (past ++ [cs]) → Q (.int ((past.length : Int) + 1)) H'
theorem Deed.from {ea : Nat → Addr} {C : Addr} {G : Addr → Prop} {H H1 : Hp} {b l : Addr} {cs : Combs} {past : List Combs} {Q : VK} {E : XK} {r : Except Nat Combs} (d : Deed ea C G H b l cs past Q E r) (s : Same H H1) : Deed ea C G H1 b l cs past Q E r := by
  cases r with
  | error j => exact fun H' s' => d H' (s.trans s')
  | ok cs' => exact fun H' G' m B => d H' G' ((Mv.ofSame s).trans m) B
def full (past : List Combs) (cs' : Combs) : Except Nat Combs := if 300 ≤ past.length then .error 9 else .ok cs'
def putD (cs : Combs) (past : List Combs) (x : Str) (ts : List Int) : Except Nat Combs :=
  if isName x = false then .error 0 else if areTeeth ts = false then .error 1 else if (cGet cs x).isSome = true then .error 2 else if 8 ≤ cs.length then .error 3 else full past (cPut cs x (canon ts))
/-! ## dict(d) -/
theorem call_dictD {X : Cx} : CallR X (.type "dict") (fun xs H Q => ∃ a kvs, xs = [V.ref a] ∧ Rd H a (.dK kvs) ∧ ∀ p, H p = none → Q (.ref p) (upd H p (.dK kvs))) := by
  intro pins s σ H xs us Q I r h
  obtain ⟨a, kvs, rfl, ha, q⟩ := h
  obtain ⟨u, rfl, ru⟩ := vals1 r
  cases ru
  exact d_copyOf I ha fun p s' np I' => ⟨.ref p, _, I', rfl, q p np⟩
end L2

namespace L2
open PySem PySem.Spec PyProof.Rows

/-! ## Texts in their order -/
def sle (a b : Str) : Prop := a.cps.toList ≤ b.cps.toList
theorem sle_iff {a b : Str} : sle a b ↔ ltCps b.cps.toList a.cps.toList = false := by
  unfold sle
  rw [ltCps_eq, decide_eq_false_iff_not, List.not_lt]
theorem sle_trans {a b c : Str} (h1 : sle a b) (h2 : sle b c) : sle a c := List.le_trans h1 h2
theorem sle_antisymm {a b : Str} (h1 : sle a b) (h2 : sle b a) : a = b := by
  have := List.le_antisymm h1 h2
  cases a; cases b
  simp only at this
  rw [Str.mk.injEq, ← Array.toList_inj]
  exact this
theorem rising_sle : ∀ {l : List Str} {p : Str}, risingS p l = true → (p :: l).Pairwise sle
  | [], p, _ => by simp
  | x :: r, p, h => by
    simp only [risingS, Bool.and_eq_true, Bool.not_eq_true'] at h
    have ih := rising_sle h.2
    have hpx : sle p x := sle_iff.mpr h.1
    refine List.pairwise_cons.mpr ⟨fun y hy => ?_, ih⟩
    rcases List.mem_cons.mp hy with rfl | hm
    · exact hpx
    · exact sle_trans hpx ((List.pairwise_cons.mp ih).1 y hm)
theorem sorted_sle {l : List Str} (h : sortedS l = true) : l.Pairwise sle := by
  cases l with
  | nil => exact List.Pairwise.nil
  | cons x r => exact rising_sle h
theorem strs_same {a b : List Str} (hp : a.Perm b) (ha : sortedS a = true) (hb : sortedS b = true) : a = b :=
  hp.eq_of_pairwise (fun _ _ _ _ h1 h2 => sle_antisymm h1 h2) (sorted_sle ha) (sorted_sle hb)
theorem atI_int {α : Type} {xs : List α} {k : Int} {v : α} (h0 : 0 ≤ k) (h : xs[k.toNat]? = some v) : atI xs k = some v := by
  have e : ((k.toNat : Nat) : Int) = k := by omega
  rw [← e]
  exact atI_nat h
/-! ## The combs that a law keeps in a dict; L: where its lists lie -/
/-! ## Drawn combs as data -/
end L2

namespace L2
open PySem PySem.Spec PyProof.Rows

/-! ## Facts of the text's own classes, looked at once -/
def errNames : List Str := [Str.ofString "BadName", Str.ofString "BadTeeth", Str.ofString "NameTaken", Str.ofString "BookFull", Str.ofString "NoComb", Str.ofString "BadTooth", Str.ofString "ToothThere", Str.ofString "FirstTooth", Str.ofString "ToothMissing", Str.ofString "DeedsFull", Str.ofString "NothingDone", Str.ofString "BadShape", Str.ofString "BadPlace", Str.ofString "BadLength", Str.ofString "NoFilling"]
def errName (j : Nat) : Str := errNames.getD j (Str.ofString "")
def valErr : List Value := [.type "ValueError", .type "Exception", .type "BaseException", .type "object"]
def clsChk (K : PySem.W.Frag) (C : Addr) : Bool := (PySem.W.clsIn K C).isSome && PySem.W.typeIn K (.ref C) == some (.type "type")
def errChk1 (K : PySem.W.Frag) (l : List Addr) (ce : Addr) (D : Addr) (j : Nat) : Bool :=
  (List.range 15).all (fun i => PySem.W.mroIn K D (.ref (l.getD i 0)) == some (i == j)) && (PySem.W.mroIn K D (.ref ce) == some true &&
  (PySem.W.findIn K (.ref D) "__getattribute__" == some (some (.builtin "BaseException.__getattribute__")) && (PySem.W.findIn K (.ref D) "__getattr__" == some none &&
  (PySem.W.findIn K (.ref D) "__class__" == some (some (.builtin "object.__class__")) && (PySem.W.mroIn K D (.type "object") == some true && (PySem.W.mroIn K D (.type "BaseException") == some true && PySem.W.excIn K D valErr "ValueError.__new__"))))))
def errChk (K : PySem.W.Frag) (l : List Addr) (ce : Addr) (js : List Nat) : Bool :=
  (List.range 15).all (fun i => clsChk K (l.getD i 0)) && (clsChk K ce && (PySem.W.mroIn K ce (.type "BaseException") == some true &&
  (PySem.W.specialIn K (.builtin "object.__class__") "__get__" == some (some (.builtin "getset_descriptor.__get__")) && (PySem.W.takesIn K (.builtin "object.__class__") == some true && js.all fun j => errChk1 K l ce (l.getD j 0) j))))
structure KindF (K : PySem.W.Frag) (ea : Nat → Addr) (D : Addr) (j : Nat) : Prop where
  lt : j < 15
  cls : ErrCls K D
  kit : ∀ i, i < 15 → PySem.W.kitOne K (.ref D) (.ref (ea i)) = some (decide (i = j))
/-- a refusal that the law's handler tells -/
structure EJ (K : PySem.W.Frag) (ea : Nat → Addr) (ce : Value) (j : Nat) : Prop where
  kf : KindF K ea (ea j) j
  ex : PySem.W.exmOne K (.ref (ea j)) ce = some true
  exc : PySem.W.excIn K (ea j) valErr "ValueError.__new__" = true
theorem kitCls_of {K : PySem.W.Frag} {D C : Addr} {b : Bool} (h : clsChk K C = true) (m : PySem.W.mroIn K D (.ref C) = some b) : PySem.W.kitCls K (.ref D) (.ref C) = some b := by
  unfold clsChk at h
  simp only [Bool.and_eq_true, beq_iff_eq] at h
  unfold PySem.W.kitCls
  simp only [h.1, h.2]
  rw [if_pos (by decide)]
  exact m
theorem ej_of {K : PySem.W.Frag} {l : List Addr} {ce : Addr} {js : List Nat} {j : Nat} (h : errChk K l ce js = true) (hj : j ∈ js) (hlt : j < 15) : EJ K (fun i => l.getD i 0) (.ref ce) j := by
  unfold errChk at h
  simp only [Bool.and_eq_true, beq_iff_eq, List.all_eq_true, List.mem_range] at h
  obtain ⟨h1, h2, h3, h4, h5, h6⟩ := h
  have h7 := h6 j hj
  unfold errChk1 at h7
  simp only [Bool.and_eq_true, beq_iff_eq, List.all_eq_true, List.mem_range] at h7
  obtain ⟨g1, g2, g3, g4, g5, g6, g7, g8⟩ := h7
  have hc : (PySem.W.clsIn K (l.getD j 0)).isSome = true := by
    have := h1 j hlt
    unfold clsChk at this
    simp only [Bool.and_eq_true] at this
    exact this.1
  refine ⟨⟨hlt, ⟨g3, g4, hc, g5, h4, h5, g6, g7⟩, fun i hi => ?_⟩, ?_, g8⟩
  · have m := g1 i hi
    unfold PySem.W.kitOne
    by_cases e : i = j
    · subst e
      rw [if_pos (beq_self_eq_true _), decide_eq_true rfl]
    · have ne : l.getD j 0 ≠ l.getD i 0 := fun z => by
        have m2 := g1 j hlt
        rw [← z] at m
        rw [m] at m2
        simp [e] at m2
      rw [if_neg (fun z => ne (Value.ref.inj (beq_iff_eq.mp z))), decide_eq_false e]
      have e2 : (i == j) = false := beq_eq_false_iff_ne.mpr e
      rw [e2] at m
      exact kitCls_of (h1 i hi) m
  · unfold PySem.W.exmOne
    rw [if_pos (by rw [show PySem.W.subIn K (.ref ce) (.type "BaseException") = some true from h3]; rfl)]
    exact kitCls_of h2 g2
theorem EJ.err {K : PySem.W.Frag} {mg : Str → Option Value} {ea : Nat → Addr} {ce : Value} {j : Nat} {x : Str} (e : EJ K ea ce j) (hm : mg x = some (.ref (ea j))) : Err K mg x (ea j) := ⟨hm, e.exc⟩
/-! ## The book's class -/
structure BookAt (K : PySem.W.Frag) (C : Addr) : Prop where
  cls : Cls K C
  nc : NoAttr K C "combs"
  np : NoAttr K C "past"
def bookChk (K : PySem.W.Frag) (C : Addr) : Bool := PySem.W.plainGet K C Str.empty && (PySem.W.hasDictIn K C && (PySem.W.plainOver K C && (PySem.W.findIn K (.ref C) "__setattr__" == some (some (.builtin "object.__setattr__")) && (PySem.W.findIn K (.ref C) "combs" == some none && PySem.W.findIn K (.ref C) "past" == some none))))
theorem book_of {K : PySem.W.Frag} {C : Addr} (h : bookChk K C = true) : BookAt K C := by
  unfold bookChk at h
  simp only [Bool.and_eq_true, beq_iff_eq] at h
  obtain ⟨h1, h2, h3, h4, h5, h6⟩ := h
  exact ⟨⟨h1, h2, h3, h4⟩, h5, h6⟩
theorem meth_mk {K : PySem.W.Frag} {C : Addr} {cn m : Str} {st : Stmt} {f : Addr} {oc : Value} {od an : Option Addr} {osl : Array (Option Value)} {kV doc pm cdv ct : Value} (a : PySem.W.findIn K (.ref C) m = some (some (.ref f)))
    (l : K.lookup f = some ⟨oc, od, .func (PySem.W.fnOf m (cn ++ Str.ofString "." ++ m) (defArgs st) (defBody st) (defScope st) .none kV doc pm an cdv ct), osl⟩) (c : PySem.W.codeIn K cdv (cn ++ Str.ofString "." ++ m) = true) (k : PySem.W.keepIn K (.ref f) = true) (i : PySem.W.isFn K (.ref f) = true) : MethAt K C cn m st :=
  ⟨f, _, fun_mk l c k, a, i, k⟩
/-- __init__ -/
structure InitAt (K : PySem.W.Frag) (mg : Str → Option Value) (C : Addr) (x qual : Str) (st : Stmt) : Prop where
  ex : ∃ f fd, Mk K C f ∧ Fun K "__init__" qual st f fd
  m : mg x = some (.ref C)
theorem init_mk {K : PySem.W.Frag} {mg : Str → Option Value} {C : Addr} {x qual : Str} {st : Stmt} {f : Addr} {oc : Value} {od an : Option Addr} {osl : Array (Option Value)} {kV doc pm cdv ct : Value} (hm : mg x = some (.ref C)) (a : PySem.W.findIn K (.ref C) "__init__" = some (some (.ref f)))
    (l : K.lookup f = some ⟨oc, od, .func (PySem.W.fnOf "__init__" qual (defArgs st) (defBody st) (defScope st) .none kV doc pm an cdv ct), osl⟩) (c : PySem.W.codeIn K cdv qual = true) (k : PySem.W.keepIn K (.ref f) = true) (i : PySem.W.isFn K (.ref f) = true) (k2 : PySem.W.keepIn K (.ref C) = true) (mk : PySem.W.makesIn K C = true) : InitAt K mg C x qual st :=
  ⟨⟨f, _, ⟨mk, a, i, k2⟩, fun_mk l c k⟩, hm⟩
theorem ref_mk {K : PySem.W.Frag} {mg : Str → Option Value} {h : Heap} {x : Str} {f : Addr} (X : K.In h) (G : h.Ns mainGlobals mg) (a : PySem.W.nsIn K mainGlobals x = some (some (.ref f))) : mg x = some (.ref f) := PySem.W.mg_of X G a
end L2

namespace L2
open PySem PySem.Spec PyProof.Rows

/-! ## A trail of dicts that a law keeps beside a book -/
theorem at_last {α : Type} (l : List α) (a : α) : atI (l ++ [a]) (-1) = some a := by
  unfold atI ixN
  rw [if_neg (by decide), if_pos (by rw [List.length_append, List.length_singleton]; omega)]
  have e : ((-1 : Int) + (((l ++ [a]).length : Nat) : Int)).toNat = l.length := by rw [List.length_append, List.length_singleton]; omega
  rw [e]
  simp
end L2

namespace L2
open PySem PySem.Spec PyProof.Rows

/-! ## xs.count(n) -/
section
variable {X : Cx}
end
section
variable {X : Cx} {T id : String} {name : Str} {r : V → List V → Hp → VK → Prop} {o e : Expr} {es : List Expr} {to : TE} {t : TA} {apos cpos : Pos}
end
/-! ## displays of dicts, wrapped -/
end L2

namespace L2
open PySem PySem.Spec PyProof.Rows

/-! ## Shapes as data -/
def pw (t : Int) : Int := 2 ^ t.toNat
def worth (ts : List Int) : Int := (ts.map pw).sum
/-- the places of a shape that are under a tooth -/
def aheadOf (n : Int) : List Int := ((List.range 7).filter fun d => n.toNat.testBit d).map fun i => ((i : Nat) : Int)
def meets (ah ts : List Int) : Bool := ts.any fun t => decide (t ∈ ah)
/-- the places under a tooth, one place further -/
def afterOf (ah ts : List Int) : List Int := ((canon (ah ++ ts)).filter fun d => decide (0 < d)).map fun d => d - 1
theorem worth_nil : worth [] = 0 := rfl
theorem worth_cons (t : Int) (ts : List Int) : worth (t :: ts) = pw t + worth ts := rfl
theorem worth_append (a b : List Int) : worth (a ++ b) = worth a + worth b := by
  induction a with
  | nil => simp [worth]
  | cons t a ih => rw [List.cons_append, worth_cons, worth_cons, ih]; omega
theorem worth_perm {a b : List Int} (h : a.Perm b) : worth a = worth b := by
  induction h with
  | nil => rfl
  | cons x _ ih => rw [worth_cons, worth_cons, ih]
  | swap x y l => simp only [worth_cons]; omega
  | trans _ _ h1 h2 => exact h1.trans h2
theorem pw_pos (t : Int) : 0 < pw t := by unfold pw; exact Int.pow_pos (by decide)
theorem worth_nn (ts : List Int) : 0 ≤ worth ts := by
  induction ts with
  | nil => exact Int.le_refl _
  | cons t ts ih => rw [worth_cons]; have := pw_pos t; omega
/-- the bits of a sum of powers -/
def bitSum (f : Nat → Bool) : Nat → Nat
  | 0 => 0
  | k + 1 => 2 ^ k * (if f k then 1 else 0) + bitSum f k
theorem bitSum_succ (f : Nat → Bool) (k : Nat) : bitSum f (k + 1) = 2 ^ k * (if f k then 1 else 0) + bitSum f k := rfl
theorem bitSum_lt (f : Nat → Bool) : ∀ k, bitSum f k < 2 ^ k
  | 0 => Nat.zero_lt_one
  | k + 1 => by
    have := bitSum_lt f k
    rw [bitSum_succ]
    rw [Nat.pow_succ]
    cases f k
    · simp; omega
    · simp; omega
theorem bitSum_test (f : Nat → Bool) (i : Nat) : ∀ k, (bitSum f k).testBit i = (decide (i < k) && f i)
  | 0 => by simp [bitSum]
  | k + 1 => by
    rw [bitSum_succ, Nat.testBit_two_pow_mul_add _ (bitSum_lt f k), bitSum_test f i k]
    by_cases h : i < k
    · rw [if_pos h, decide_eq_true h, decide_eq_true (show i < k + 1 by omega)]
    · rw [if_neg h]
      by_cases e : i = k
      · subst e
        rw [Nat.sub_self, decide_eq_true (Nat.lt_succ_self i)]
        cases f i <;> rfl
      · rw [decide_eq_false (show ¬ i < k + 1 by omega), Bool.false_and]
        cases f k
        · exact Nat.zero_testBit _
        · show (1 : Nat).testBit (i - k) = false
          rw [Bool.eq_false_iff]
          exact fun z => absurd (Nat.testBit_one_eq_true_iff_self_eq_zero.mp z) (by omega)
theorem worth_bits (f : Nat → Bool) : ∀ k, worth (((List.range k).filter f).map fun i => ((i : Nat) : Int)) = ((bitSum f k : Nat) : Int)
  | 0 => rfl
  | k + 1 => by
    rw [List.range_succ, List.filter_append, List.map_append, worth_append, worth_bits f k, bitSum_succ]
    cases h : f k
    · simp [h, worth]
    · simp only [h, List.filter_cons, List.filter_nil, if_true, List.map_cons, List.map_nil, worth_cons, worth_nil]
      unfold pw
      rw [Int.toNat_natCast]
      push_cast
      omega
theorem bits_test {f : Nat → Bool} {k : Nat} (i : Nat) : (worth (((List.range k).filter f).map fun i => ((i : Nat) : Int))).toNat.testBit i = (decide (i < k) && f i) := by
  rw [worth_bits, Int.toNat_natCast, bitSum_test]
theorem ahead_worth (f : Nat → Bool) : aheadOf (worth (((List.range 7).filter f).map fun i => ((i : Nat) : Int))) = ((List.range 7).filter f).map fun i => ((i : Nat) : Int) := by
  unfold aheadOf
  congr 1
  refine List.filter_congr fun i hi => ?_
  rw [bits_test, decide_eq_true (List.mem_range.mp hi), Bool.true_and]
theorem worth_ahead {n : Int} (h0 : 0 ≤ n) (h1 : n < 128) : worth (aheadOf n) = n := by
  unfold aheadOf
  rw [worth_bits]
  have : bitSum (fun d => n.toNat.testBit d) 7 = n.toNat := by
    refine Nat.eq_of_testBit_eq fun i => ?_
    rw [bitSum_test]
    by_cases h : i < 7
    · rw [decide_eq_true h, Bool.true_and]
    · rw [decide_eq_false h, Bool.false_and]
      symm
      refine Nat.testBit_lt_two_pow (Nat.lt_of_lt_of_le (show n.toNat < 2 ^ 7 by omega) (Nat.pow_le_pow_right (by decide) (by omega)))
  rw [this]
  omega
theorem mem_ahead {n t : Int} : t ∈ aheadOf n ↔ 0 ≤ t ∧ t ≤ 6 ∧ n.toNat.testBit t.toNat = true := by
  unfold aheadOf
  simp only [List.mem_map, List.mem_filter, List.mem_range]
  constructor
  · rintro ⟨i, ⟨hi, hb⟩, rfl⟩
    exact ⟨by omega, by omega, by simpa using hb⟩
  · rintro ⟨h0, h6, hb⟩
    exact ⟨t.toNat, ⟨by omega, hb⟩, by omega⟩
theorem meets_false {ah ts : List Int} : meets ah ts = false ↔ ∀ t ∈ ts, t ∉ ah := by
  unfold meets
  simp [List.any_eq_false]
theorem and_worth {n : Int} {ts : List Int} (h0 : 0 ≤ n) (h1 : n < 128) (g : GT ts) : Builtin.bitAnd n (worth ts) = 0 ↔ meets (aheadOf n) ts = false := by
  have hb : Builtin.bitAnd n (worth ts) = ((n.toNat &&& (worth ts).toNat : Nat) : Int) := by
    unfold Builtin.bitAnd
    rw [decide_eq_true h0, decide_eq_true (worth_nn ts)]
  rw [hb, meets_false]
  obtain ⟨f, rfl, _⟩ := g
  constructor
  · intro h t ht ha
    obtain ⟨t0, t6, tb⟩ := mem_ahead.mp ha
    obtain ⟨i, hi, rfl⟩ := List.mem_map.mp ht
    obtain ⟨hr, hf⟩ := List.mem_filter.mp hi
    have z : (n.toNat &&& (worth (((List.range 8).filter f).map fun i => ((i : Nat) : Int))).toNat) = 0 := by omega
    have z := congrArg (fun m => m.testBit i) z
    simp only [Nat.testBit_and, bits_test, Nat.zero_testBit] at z
    rw [Int.toNat_natCast] at tb
    rw [tb, hf, decide_eq_true (List.mem_range.mp hr)] at z
    exact absurd z (by decide)
  · intro h
    have z : (n.toNat &&& (worth (((List.range 8).filter f).map fun i => ((i : Nat) : Int))).toNat) = 0 := by
      refine Nat.eq_of_testBit_eq fun i => ?_
      rw [Nat.testBit_and, bits_test, Nat.zero_testBit]
      cases e : n.toNat.testBit i with
      | false => rfl
      | true =>
        have hi : i < 7 := by
          apply Classical.byContradiction
          intro hn
          have := Nat.testBit_lt_two_pow (Nat.lt_of_lt_of_le (show n.toNat < 2 ^ 7 by omega) (Nat.pow_le_pow_right (by decide) (show 7 ≤ i by omega)))
          rw [this] at e
          exact absurd e (by decide)
        cases ef : f i with
        | false => simp
        | true =>
          exfalso
          refine h (i : Int) (List.mem_map.mpr ⟨i, List.mem_filter.mpr ⟨List.mem_range.mpr (by omega), ef⟩, rfl⟩) (mem_ahead.mpr ⟨by omega, by omega, ?_⟩)
          rwa [Int.toNat_natCast]
    omega
theorem worth_half (l : List Int) (h : ∀ t ∈ l, 0 ≤ t) : worth l = 2 * worth ((l.filter fun d => decide (0 < d)).map fun d => d - 1) + ((l.count 0 : Nat) : Int) := by
  induction l with
  | nil => rfl
  | cons t l ih =>
    have ih := ih fun x hx => h x (List.mem_cons_of_mem _ hx)
    have t0 := h t List.mem_cons_self
    rw [worth_cons, List.filter_cons, List.count_cons]
    by_cases e : t = 0
    · subst e
      rw [ih]
      simp [pw]
      omega
    · have hp : 0 < t := by omega
      have : pw t = 2 * pw (t - 1) := by
        unfold pw
        rw [show t.toNat = (t - 1).toNat + 1 by omega, Int.pow_succ]
        omega
      rw [if_pos (decide_eq_true hp), List.map_cons, worth_cons, this, ih]
      rw [if_neg (by simpa using e)]
      omega
theorem after_in {ah ts : List Int} : ∀ d ∈ afterOf ah ts, 0 ≤ d ∧ d ≤ 6 := by
  intro d hd
  obtain ⟨x, hx, rfl⟩ := List.mem_map.mp hd
  obtain ⟨hc, hp⟩ := List.mem_filter.mp hx
  have := (mem_canon.mp hc).2
  have := of_decide_eq_true hp
  omega
theorem after_lt (ah ts : List Int) : (afterOf ah ts).Pairwise (· < ·) := by
  unfold afterOf
  rw [List.pairwise_map]
  exact ((canon_lt (ah ++ ts)).sublist List.filter_sublist).imp fun h => by omega
theorem ahead_nodup (n : Int) : (aheadOf n).Nodup := by
  refine nodup_lt ?_
  unfold aheadOf
  rw [List.pairwise_map]
  refine List.Pairwise.sublist List.filter_sublist (List.Pairwise.imp ?_ (List.pairwise_lt_range (n := 7)))
  intro a b h
  omega
theorem after_worth {ah ts : List Int} (ha : ah.Nodup) (hr : ∀ t ∈ ah, 0 ≤ t ∧ t ≤ 6) (ht : ts.Nodup) (hr' : ∀ t ∈ ts, 0 ≤ t ∧ t ≤ 7) (hm : meets ah ts = false) : worth (afterOf ah ts) = (worth ah + worth ts) / 2 := by
  have hn : (ah ++ ts).Nodup := List.nodup_append.mpr ⟨ha, ht, fun a h1 b h2 e => meets_false.mp hm b h2 (e ▸ h1)⟩
  have hp : (canon (ah ++ ts)).Perm (ah ++ ts) := by
    rw [List.perm_ext_iff_of_nodup (canon_nodup _) hn]
    intro t
    rw [mem_canon]
    refine ⟨fun h => h.1, fun h => ⟨h, ?_⟩⟩
    rcases List.mem_append.mp h with z | z
    · have := hr t z; omega
    · exact hr' t z
  have hw := worth_half (canon (ah ++ ts)) fun t h => (mem_canon.mp h).2.1
  rw [worth_perm hp, worth_append] at hw
  have hc := List.nodup_iff_count.mp (canon_nodup (ah ++ ts)) 0
  unfold afterOf
  omega
theorem ahead_in {n : Int} : ∀ t ∈ aheadOf n, 0 ≤ t ∧ t ≤ 6 := fun t h => ⟨(mem_ahead.mp h).1, (mem_ahead.mp h).2.1⟩
theorem zero_ahead {n : Int} (h0 : 0 ≤ n) : (0 : Int) ∈ aheadOf n ↔ n % 2 = 1 := by
  rw [mem_ahead]
  have : n.toNat.testBit 0 = decide (n.toNat % 2 = 1) := Nat.testBit_zero _
  rw [show (0 : Int).toNat = 0 from rfl, this, decide_eq_true_eq]
  omega
/-- the ways on from a shape, as the program reckons them -/
def stepsOf (cs : Combs) (n : Int) : List (Str × Int) := if n % 2 = 1 then [("", n / 2)] else (cs.filter fun c => decide (Builtin.bitAnd n (worth c.2) = 0)).map fun c => (c.1, (n + worth c.2) / 2)
/-- and as places -/
def goesOf (cs : Combs) (ah : List Int) : List (Str × List Int) := if (0 : Int) ∈ ah then [("", afterOf ah [])] else (cs.filter fun c => !meets ah c.2).map fun c => (c.1, afterOf ah c.2)
theorem steps_goes {cs : Combs} {n : Int} (h0 : 0 ≤ n) (h1 : n < 128) (g : ∀ c ∈ cs, GT c.2) : (goesOf cs (aheadOf n)).map (fun p => (p.1, worth p.2)) = stepsOf cs n := by
  unfold goesOf stepsOf
  by_cases e : n % 2 = 1
  · rw [if_pos e, if_pos ((zero_ahead h0).mpr e), List.map_cons, List.map_nil, after_worth (ahead_nodup n) ahead_in List.nodup_nil (by simp) (by rfl), worth_ahead h0 h1, worth_nil, Int.add_zero]
  · rw [if_neg e, if_neg fun z => e ((zero_ahead h0).mp z), List.map_map]
    have hf : (cs.filter fun c => !meets (aheadOf n) c.2) = cs.filter fun c => decide (Builtin.bitAnd n (worth c.2) = 0) := by
      refine List.filter_congr fun c hc => ?_
      rw [Bool.eq_iff_iff, decide_eq_true_eq, and_worth h0 h1 (g c hc), Bool.not_eq_true']
    rw [hf]
    refine List.map_congr_left fun c hc => ?_
    obtain ⟨hc, hz⟩ := List.mem_filter.mp hc
    have gc := g c hc
    show (c.1, worth (afterOf (aheadOf n) c.2)) = _
    rw [after_worth (ahead_nodup n) ahead_in (nodup_lt (gt_lt gc)) (gt_in gc) ((and_worth h0 h1 gc).mp (of_decide_eq_true hz)), worth_ahead h0 h1]
theorem steps_lt {cs : Combs} {n : Int} (h0 : 0 ≤ n) (h1 : n < 128) (g : ∀ c ∈ cs, GT c.2) : ∀ p ∈ stepsOf cs n, 0 ≤ p.2 ∧ p.2 < 128 := by
  rw [← steps_goes h0 h1 g]
  intro p hp
  obtain ⟨q, hq, rfl⟩ := List.mem_map.mp hp
  have : ∃ a b, q.2 = afterOf a b := by
    unfold goesOf at hq
    split at hq
    · rw [List.mem_singleton.mp hq]; exact ⟨_, _, rfl⟩
    · obtain ⟨c, _, rfl⟩ := List.mem_map.mp hq; exact ⟨_, _, rfl⟩
  obtain ⟨a, b, e⟩ := this
  show 0 ≤ worth q.2 ∧ worth q.2 < 128
  rw [e]
  refine ⟨worth_nn _, ?_⟩
  have hs : afterOf a b = ((List.range 7).filter fun i => decide (((i : Nat) : Int) ∈ afterOf a b)).map fun i => ((i : Nat) : Int) := by
    refine same_sorted ?_ ((after_lt a b).imp fun h => by omega) ?_
    · rw [List.perm_ext_iff_of_nodup (nodup_lt (after_lt a b))]
      · intro t
        simp only [List.mem_map, List.mem_filter, List.mem_range, decide_eq_true_eq]
        constructor
        · intro h
          have := after_in t h
          exact ⟨t.toNat, ⟨by omega, by rwa [show ((t.toNat : Nat) : Int) = t by omega]⟩, by omega⟩
        · rintro ⟨i, ⟨_, h⟩, rfl⟩
          exact h
      · refine nodup_lt ?_
        rw [List.pairwise_map]
        refine List.Pairwise.sublist List.filter_sublist (List.Pairwise.imp ?_ (List.pairwise_lt_range (n := 7)))
        intro a b h
        omega
    · rw [List.pairwise_map]
      refine List.Pairwise.sublist List.filter_sublist (List.Pairwise.imp ?_ (List.pairwise_lt_range (n := 7)))
      intro a b h
      omega
  rw [hs, worth_bits]
  have := bitSum_lt (fun i => decide (((i : Nat) : Int) ∈ afterOf a b)) 7
  omega
/-! ## Ways on, as they lie in the heap -/
def StepsR (H : Hp) : List V → List (Str × Int) → Prop
  | [], [] => True
  | v :: vs, s :: ss => (∃ q, v = .ref q ∧ H q = some (.tup [.str s.1, .int s.2])) ∧ StepsR H vs ss
  | _, _ => False
theorem StepsR.mono {H H' : Hp} (m : ∀ q xs, H q = some (.tup xs) → H' q = some (.tup xs)) : ∀ {vs : List V} {ss : List (Str × Int)}, StepsR H vs ss → StepsR H' vs ss
  | [], [], _ => trivial
  | _ :: _, _ :: _, ⟨⟨q, e, h⟩, r⟩ => ⟨⟨q, e, m q _ h⟩, r.mono m⟩
  | [], _ :: _, x => x.elim
  | _ :: _, [], x => x.elim
theorem StepsR.length {H : Hp} : ∀ {vs : List V} {ss : List (Str × Int)}, StepsR H vs ss → vs.length = ss.length
  | [], [], _ => rfl
  | _ :: _, _ :: _, ⟨_, r⟩ => by rw [List.length_cons, List.length_cons, r.length]
  | [], _ :: _, x => x.elim
  | _ :: _, [], x => x.elim
theorem StepsR.snoc {H : Hp} {q : Addr} {s : Str × Int} (hq : H q = some (.tup [.str s.1, .int s.2])) : ∀ {vs : List V} {ss : List (Str × Int)}, StepsR H vs ss → StepsR H (vs ++ [.ref q]) (ss ++ [s])
  | [], [], _ => ⟨⟨q, rfl, hq⟩, trivial⟩
  | _ :: _, _ :: _, ⟨a, r⟩ => ⟨a, r.snoc hq⟩
  | [], _ :: _, x => x.elim
  | _ :: _, [], x => x.elim
theorem StepsR.get {H : Hp} {i : Nat} {s : Str × Int} : ∀ {vs : List V} {ss : List (Str × Int)}, StepsR H vs ss → ss[i]? = some s → ∃ q, vs[i]? = some (.ref q) ∧ H q = some (.tup [.str s.1, .int s.2]) := by
  induction i with
  | zero =>
    intro vs ss r e
    match vs, ss, r with
    | [], [], _ => simp at e
    | v :: _, x :: _, ⟨⟨q, ev, h⟩, _⟩ =>
      simp at e
      subst e
      exact ⟨q, by rw [ev]; rfl, h⟩
  | succ i ih =>
    intro vs ss r e
    match vs, ss, r with
    | [], [], _ => simp at e
    | v :: vs, x :: ss, ⟨_, r⟩ =>
      obtain ⟨q, e1, e2⟩ := ih r (by simpa using e)
      exact ⟨q, by simpa using e1, e2⟩
/-- the combs in the order of names -/
def byNames (cs : Combs) (nm : List Str) : Combs := nm.map fun x => (x, (cGet cs x).getD [])
theorem byNames_snoc {cs : Combs} {nm : List Str} {x : Str} {ts : List Int} (h : cGet cs x = some ts) : byNames cs (nm ++ [x]) = byNames cs nm ++ [(x, ts)] := by
  unfold byNames
  rw [List.map_append, List.map_cons, List.map_nil, h]
  rfl
theorem steps_snoc {cs : Combs} {c : Str × List Int} {n : Int} (h : ¬ n % 2 = 1) : stepsOf (cs ++ [c]) n = stepsOf cs n ++ if Builtin.bitAnd n (worth c.2) = 0 then [(c.1, (n + worth c.2) / 2)] else [] := by
  unfold stepsOf
  rw [if_neg h, if_neg h, List.filter_append, List.map_append]
  congr 1
  by_cases e : Builtin.bitAnd n (worth c.2) = 0
  · rw [if_pos e, List.filter_cons, if_pos (decide_eq_true e)]
    rfl
  · rw [if_neg e, List.filter_cons, if_neg (by simpa using e)]
    rfl
theorem steps_nil {n : Int} (h : ¬ n % 2 = 1) : stepsOf [] n = [] := by
  unfold stepsOf
  rw [if_neg h]
  rfl
theorem steps_odd {cs : Combs} {n : Int} (h : n % 2 = 1) : stepsOf cs n = [((Str.ofString "" : Str), n / 2)] := by
  unfold stepsOf
  exact if_pos h
theorem steps_len {cs : Combs} {n : Int} (h : ¬ n % 2 = 1) : (stepsOf cs n).length ≤ cs.length := by
  unfold stepsOf
  rw [if_neg h, List.length_map]
  exact List.length_filter_le _ _
theorem in_intS (t : Int) (ts : List Int) : inV (V.int t) (ts.map V.int) = decide (t ∈ ts) := by
  unfold inV
  rw [List.any_map, Bool.eq_iff_iff, List.any_eq_true, decide_eq_true_eq]
  constructor
  · rintro ⟨x, hx, e⟩
    have : x = t := by
      have e' : (x == t) = true := e
      exact eq_of_beq e'
    rw [← this]; exact hx
  · intro h
    exact ⟨t, h, beq_self_eq_true t⟩
theorem after_canon {ah ts ns : List Int} (ha : ah.Nodup) (hr : ∀ t ∈ ah, 0 ≤ t ∧ t ≤ 6) (ht : ts.Nodup) (hr' : ∀ t ∈ ts, 0 ≤ t ∧ t ≤ 7) (hm : meets ah ts = false) (hp : ns.Perm (ah ++ ts)) (hs : ns.Pairwise (· ≤ ·)) : ns = canon (ah ++ ts) := by
  refine canon_of hp hs (List.nodup_append.mpr ⟨ha, ht, fun a h1 b h2 e => meets_false.mp hm b h2 (e ▸ h1)⟩) fun t h => ?_
  rcases List.mem_append.mp h with z | z
  · have := hr t z; omega
  · exact hr' t z
/-! ## Ways on as places, as they lie in the heap -/
def GoesR (H : Hp) : List V → List (Str × List Int) → Prop
  | [], [] => True
  | v :: vs, s :: ss => (∃ q t, v = .ref q ∧ H q = some (.tup [.str s.1, .ref t]) ∧ H t = some (.tup (s.2.map V.int))) ∧ GoesR H vs ss
  | _, _ => False
theorem GoesR.mono {H H' : Hp} (m : ∀ q xs, H q = some (.tup xs) → H' q = some (.tup xs)) : ∀ {vs : List V} {ss : List (Str × List Int)}, GoesR H vs ss → GoesR H' vs ss
  | [], [], _ => trivial
  | _ :: _, _ :: _, ⟨⟨q, t, e, h, h2⟩, r⟩ => ⟨⟨q, t, e, m q _ h, m t _ h2⟩, r.mono m⟩
  | [], _ :: _, x => x.elim
  | _ :: _, [], x => x.elim
theorem GoesR.length {H : Hp} : ∀ {vs : List V} {ss : List (Str × List Int)}, GoesR H vs ss → vs.length = ss.length
  | [], [], _ => rfl
  | _ :: _, _ :: _, ⟨_, r⟩ => by rw [List.length_cons, List.length_cons, r.length]
  | [], _ :: _, x => x.elim
  | _ :: _, [], x => x.elim
theorem GoesR.snoc {H : Hp} {q t : Addr} {s : Str × List Int} (hq : H q = some (.tup [.str s.1, .ref t])) (ht : H t = some (.tup (s.2.map V.int))) : ∀ {vs : List V} {ss : List (Str × List Int)}, GoesR H vs ss → GoesR H (vs ++ [.ref q]) (ss ++ [s])
  | [], [], _ => ⟨⟨q, t, rfl, hq, ht⟩, trivial⟩
  | _ :: _, _ :: _, ⟨a, r⟩ => ⟨a, r.snoc hq ht⟩
  | [], _ :: _, x => x.elim
  | _ :: _, [], x => x.elim
theorem GoesR.get {H : Hp} {i : Nat} {s : Str × List Int} : ∀ {vs : List V} {ss : List (Str × List Int)}, GoesR H vs ss → ss[i]? = some s → ∃ q t, vs[i]? = some (.ref q) ∧ H q = some (.tup [.str s.1, .ref t]) ∧ H t = some (.tup (s.2.map V.int)) := by
  induction i with
  | zero =>
    intro vs ss r e
    match vs, ss, r with
    | [], [], _ => simp at e
    | v :: _, x :: _, ⟨⟨q, t, ev, h, h2⟩, _⟩ =>
      simp at e
      subst e
      exact ⟨q, t, by rw [ev]; rfl, h, h2⟩
  | succ i ih =>
    intro vs ss r e
    match vs, ss, r with
    | [], [], _ => simp at e
    | v :: vs, x :: ss, ⟨_, r⟩ =>
      obtain ⟨q, t, e1, e2⟩ := ih r (by simpa using e)
      exact ⟨q, t, by simpa using e1, e2⟩
theorem goes_in {cs : Combs} {ah : List Int} (h : (0 : Int) ∈ ah) : goesOf cs ah = [((Str.ofString "" : Str), afterOf ah [])] := by
  unfold goesOf
  exact if_pos h
theorem goes_nil {ah : List Int} (h : (0 : Int) ∉ ah) : goesOf [] ah = [] := by
  unfold goesOf
  rw [if_neg h]
  rfl
theorem goes_snoc {cs : Combs} {c : Str × List Int} {ah : List Int} (h : (0 : Int) ∉ ah) : goesOf (cs ++ [c]) ah = goesOf cs ah ++ if meets ah c.2 = true then [] else [(c.1, afterOf ah c.2)] := by
  unfold goesOf
  rw [if_neg h, if_neg h, List.filter_append, List.map_append]
  congr 1
  by_cases e : meets ah c.2 = true
  · rw [if_pos e, List.filter_cons, if_neg (by rw [e]; decide)]
    rfl
  · rw [if_neg e, List.filter_cons, if_pos (by simpa using e)]
    rfl
end L2

namespace L2
open PySem PySem.Spec PyProof.Rows PySem.W

/-! ## The order that the list sort asks for, over a strict order of the places -/
structure LtOk (n : Nat) (lt : Nat → Nat → Bool) : Prop where
  tr : ∀ {a b c}, lt a b = true → lt b c = true → lt a c = true
  tot : ∀ {a b}, a < n → b < n → a ≠ b → lt a b = false → lt b a = true
  irr : ∀ a, lt a a = false
abbrev gd (p : Array Nat) (i : Nat) : Nat := p.getD i 0
section
variable {n : Nat} {lt : Nat → Nat → Bool} {cmp : Nat → Nat → (Bool → Shared → Prop) → Shared → Prop} {s : Shared}
variable (L : LtOk n lt) (hc : ∀ i j C, i < n → j < n → i ≠ j → C (lt i j) s → cmp i j C s)
include L hc
omit hc L in
omit hc L in
omit hc L in
end
end L2
namespace L2
open PySem PySem.Spec PyProof.Rows PySem.W
open AutoSeq1 (wpAny_loadPart')
open MeetsSeq MeetsSeq2 MeetsSeq3

section
variable {prog : Program} {w : World} {A : Around} {E : Value → Shared → Prop} {s : Shared}
end

/-! ## sorted(kinds) -/
def kd (ks : List (Str × List Int)) (i : Nat) : Str × List Int := ks.getD i (Str.ofString "", [])
section
variable {X : Cx}
end
/-! ## a module's own tuple of whole numbers -/
def intsChk : List Value → List Int → Bool
  | [], [] => true
  | .int i _ :: r, k :: s => decide (i = k) && intsChk r s
  | _, _ => false
theorem ints_chk : ∀ {us : List Value} {ns : List Int}, intsChk us ns = true → Vals (ns.map V.int) us
  | [], [], _ => .nil
  | .int i t :: r, k :: s, h => by
    simp only [intsChk, Bool.and_eq_true, decide_eq_true_eq] at h
    obtain ⟨rfl, h⟩ := h
    exact .cons ⟨t, rfl⟩ (ints_chk h)
  | [], _ :: _, h => by cases h
def tupChk (K : PySem.W.Frag) (a : Addr) (ns : List Int) : Bool := match K.lookup a with
  | some o => (o.cls == .type "tuple") && match o.data with
    | .seq its _ => intsChk its.toList ns && decide (its.size ≤ 1000)
    | _ => false
  | none => false
theorem tup_chk {K : PySem.W.Frag} {a : Addr} {ns : List Int} (h : tupChk K a ns = true) (H : Hp) : SqT K H a (ns.map V.int) := by
  unfold tupChk at h
  split at h
  · rename_i o e
    rw [Bool.and_eq_true] at h
    obtain ⟨hc, h⟩ := h
    split at h
    · rename_i its n ed
      rw [Bool.and_eq_true] at h
      exact .inr ⟨o, its, n, e, eq_of_beq hc, ed, big (of_decide_eq_true h.2), ints_chk h.1⟩
    · cases h
  · cases h
end L2

namespace L2
open PySem PySem.Spec PyProof.Rows

/-! ## A comprehension, turn by turn: which turns are kept, and what is true of each element -/
theorem comp_x {J : It} {Ok : Hp → Prop} {L : List V} {tf : TT} {te : TE} {D : Addr} {σ0 capv : St} {H1 : Hp} {Q : VK} (hσ : σ0 = none :: capv) (G : Gives J Ok L) (hL : L.length ≤ sizeLine) (hD : H1 D = none) (hOk : ∀ H, Same H1 H → Ok H) (p : Nat → Bool) (Rel : Hp → Nat → V → Prop)
    (hm : ∀ H H' i v, Same H H' → Rel H i v → Rel H' i v) (hw : ∀ H i v l l', v ≠ .ref D → H D = some (.lst l) → Rel H i v → Rel (upd H D (.lst l')) i v)
    (ht : ∀ (i : Nat) x, L[i]? = some x → ∀ H R, Same H1 H → (∀ H', Same H H' → R (p i) H') → tf (some x :: capv) H R)
    (he : ∀ (i : Nat) x, L[i]? = some x → p i = true → ∀ H R, Same H1 H → H D ≠ none → (∀ H' v, Same H H' → v ≠ .ref D → Rel H' i v → R v H') → te (some x :: capv) H R)
    (hd : ∀ H ys, Same H1 H → H D = some (.lst ys) → Paired (fun i y => y ≠ .ref D ∧ Rel H i y) ((List.range L.length).filter p) ys → Q (.ref D) H) :
    CompW J D σ0 H1 (gName 0) tf te Q := by
  subst hσ
  refine comp_g G (fun i xs σ H => (∃ o, σ = o :: capv) ∧ Same H1 H ∧ H D = some (.lst xs) ∧ Paired (fun i y => y ≠ .ref D ∧ Rel H i y) ((List.range i).filter p) xs) ⟨⟨none, rfl⟩, Same.new hD, upd_same, .nil⟩ (fun i xs σ H _ h => hOk H h.2.1) ?_ ?_
  · rintro i x xs σ H hi hx ⟨⟨o, rfl⟩, s, e, hr⟩
    show tf (some x :: capv) H _
    refine ht i x hx H _ s fun H' s' => ?_
    have hxl : xs.length ≤ i := by
      rw [← Paired.length hr]
      exact Nat.le_trans (List.length_filter_le _ _) (by rw [List.length_range]; omega)
    have efil : (List.range (i + 1)).filter p = (List.range i).filter p ++ if p i = true then [i] else [] := by
      rw [List.range_succ, List.filter_append]
      congr 1
      rw [List.filter_cons, List.filter_nil]
    cases hp : p i with
    | true =>
      rw [if_pos rfl]
      refine he i x hx hp H' _ (s.trans s') (by rw [s' _ _ e]; exact nofun) fun H2 v s2 hv rv => ?_
      have e2 := s2 _ _ (s' _ _ e)
      refine CNext.of hi hL e2 hxl ⟨⟨some x, rfl⟩, ((s.trans s').trans s2).put hD, upd_same, ?_⟩
      rw [efil, if_pos hp]
      exact Paired.snoc (Paired.mapP hr fun j y z => ⟨z.1, hw _ _ _ _ _ z.1 e2 (hm _ _ _ _ (s'.trans s2) z.2)⟩) ⟨hv, hw _ _ _ _ _ hv e2 rv⟩
    | false =>
      rw [if_neg Bool.false_ne_true]
      refine CSkip.of (xs := xs) hi ⟨⟨some x, rfl⟩, s.trans s', s' _ _ e, ?_⟩
      rw [efil, if_neg (by rw [hp]; exact Bool.false_ne_true), List.append_nil]
      exact Paired.mapP hr fun j y z => ⟨z.1, hm _ _ _ _ s' z.2⟩
  · rintro xs σ H ⟨_, s, e, hr⟩
    exact hd H xs s e hr
theorem Paired.at {α β : Type} {R : α → β → Prop} : ∀ {l : List α} {m : List β} {i : Nat} {x : α}, Paired R l m → l[i]? = some x → ∃ y, m[i]? = some y ∧ R x y
  | _, _, i, x, .nil, h => by simp at h
  | _, _, 0, x, .cons h r, e => by
    simp at e
    subst e
    exact ⟨_, rfl, h⟩
  | _, _, i + 1, x, .cons h r, e => by
    obtain ⟨y, e1, e2⟩ := Paired.at (i := i) r (by simpa using e)
    exact ⟨y, by simpa using e1, e2⟩
/-- with elements that do not lie in the heap -/
theorem comp_i {J : It} {Ok : Hp → Prop} {L : List V} {tf : TT} {te : TE} {D : Addr} {σ0 capv : St} {H1 : Hp} {Q : VK} (hσ : σ0 = none :: capv) (G : Gives J Ok L) (hL : L.length ≤ sizeLine) (hD : H1 D = none) (hOk : ∀ H, Same H1 H → Ok H) (p : Nat → Bool) (F : Nat → V) (hF : ∀ i, i < L.length → p i = true → F i ≠ .ref D)
    (ht : ∀ (i : Nat) x, L[i]? = some x → ∀ H R, Same H1 H → (∀ H', Same H H' → R (p i) H') → tf (some x :: capv) H R)
    (he : ∀ (i : Nat) x, L[i]? = some x → p i = true → ∀ H R, Same H1 H → (∀ H', Same H H' → R (F i) H') → te (some x :: capv) H R)
    (hd : ∀ H, Same H1 H → H D = some (.lst (((List.range L.length).filter p).map F)) → Q (.ref D) H) :
    CompW J D σ0 H1 (gName 0) tf te Q := by
  refine comp_x hσ G hL hD hOk p (fun _ i v => v = F i) (fun _ _ _ _ _ h => h) (fun _ _ _ _ _ _ _ h => h) ht (fun i x hx hp H R s _ h => he i x hx hp H R s fun H' s' => h H' _ s' (hF i (List.getElem?_eq_some_iff.mp hx).1 hp) rfl) fun H ys s e pr => hd H s ?_
  rw [e]
  have : ∀ {l : List Nat} {m : List V}, Paired (fun i y => y ≠ .ref D ∧ y = F i) l m → m = l.map F := by
    intro l m q
    induction q with
    | nil => rfl
    | cons h _ ih => rw [List.map_cons, ← ih, h.2]
  rw [this pr]
/-! ## The combs in the order of names -/
def nmSort (cs : Combs) : List Str := (cs.map (·.1)).mergeSort fun a b => decide (a.cps.toList ≤ b.cps.toList)
theorem nm_perm (cs : Combs) : (nmSort cs).Perm (cs.map (·.1)) := List.mergeSort_perm _ _
theorem nm_sorted (cs : Combs) : sortedS (nmSort cs) = true := by
  refine sortedS_of_pairwise _ ?_
  have h := List.pairwise_mergeSort (le := fun a b : Str => decide (a.cps.toList ≤ b.cps.toList)) (fun a b c h1 h2 => decide_eq_true (List.le_trans (of_decide_eq_true h1) (of_decide_eq_true h2))) (fun a b => by
    rcases List.le_total a.cps.toList b.cps.toList with h | h
    · rw [decide_eq_true h]; rfl
    · rw [decide_eq_true h, Bool.or_true]) (cs.map (·.1))
  exact h.imp fun {a b} h => sle_iff.mp (show a.cps.toList ≤ b.cps.toList from of_decide_eq_true h)
def srt (cs : Combs) : Combs := byNames cs (nmSort cs)
theorem mem_get {cs : Combs} (nd : (cs.map (·.1)).Nodup) {c : Str × List Int} (h : c ∈ cs) : cGet cs c.1 = some c.2 := by
  induction cs with
  | nil => cases h
  | cons d cs ih =>
    rw [get_cons]
    rw [List.map_cons, List.nodup_cons] at nd
    rcases List.mem_cons.mp h with rfl | h
    · exact if_pos rfl
    · rw [if_neg (fun z : d.1 = c.1 => nd.1 (z ▸ List.mem_map.mpr ⟨c, h, rfl⟩))]
      exact ih nd.2 h
theorem by_same {cs ks : Combs} (nd : (cs.map (·.1)).Nodup) (p : ks.Perm cs) : byNames cs (ks.map (·.1)) = ks := by
  unfold byNames
  rw [List.map_map]
  conv => rhs; rw [← List.map_id ks]
  refine List.map_congr_left fun k hk => ?_
  show (k.1, (cGet cs k.1).getD []) = k
  rw [mem_get nd (p.mem_iff.mp hk)]
  rfl
theorem srt_perm {cs : Combs} (nd : (cs.map (·.1)).Nodup) : (srt cs).Perm cs := by
  have h : (byNames cs (nmSort cs)).Perm (byNames cs (cs.map (·.1))) := (nm_perm cs).map _
  rw [by_same nd (List.Perm.refl _)] at h
  exact h
/-! ## The ways on as a graph over the shapes from 0 to 127 -/
def stp (C : Combs) (s : Nat) : List (Str × Int) := stepsOf C (s : Int)
def nxtRow (C : Combs) (r : List Bool) : List Bool := (List.range 128).map fun s => (stp C s).any fun p => r.getD p.2.toNat false
def rowAt (C : Combs) : Nat → List Bool
  | 0 => List.replicate 128 true
  | k + 1 => nxtRow C (rowAt C k)
theorem row_length (C : Combs) : ∀ k, (rowAt C k).length = 128
  | 0 => by simp [rowAt]
  | k + 1 => by simp [rowAt, nxtRow]
abbrev tr (r : List Bool) (s : Nat) : Bool := r.getD s false
theorem tr_next {C : Combs} {r : List Bool} {s : Nat} (h : s < 128) : tr (nxtRow C r) s = (stp C s).any fun p => tr r p.2.toNat := by
  unfold tr nxtRow
  rw [List.getD_eq_getElem?_getD, List.getElem?_map, List.getElem?_range h]
  rfl
theorem tr_zero {C : Combs} {s : Nat} (h : s < 128) : tr (rowAt C 0) s = true := by
  unfold tr rowAt
  rw [List.getD_eq_getElem?_getD, List.getElem?_replicate, if_pos h]
  rfl
def GC (C : Combs) : Prop := ∀ c ∈ C, GT c.2
theorem stp_lt {C : Combs} (g : GC C) {s : Nat} (h : s < 128) {p : Str × Int} (hp : p ∈ stp C s) : 0 ≤ p.2 ∧ p.2.toNat < 128 := by
  have := steps_lt (n := (s : Int)) (by omega) (by omega) g p hp
  omega
theorem tr_mono {C : Combs} (g : GC C) : ∀ k s, s < 128 → tr (rowAt C (k + 1)) s = true → tr (rowAt C k) s = true
  | 0, s, h, _ => tr_zero h
  | k + 1, s, h, e => by
    rw [show rowAt C (k + 1 + 1) = nxtRow C (rowAt C (k + 1)) from rfl, tr_next h] at e
    rw [show rowAt C (k + 1) = nxtRow C (rowAt C k) from rfl, tr_next h]
    obtain ⟨p, hp, e⟩ := List.any_eq_true.mp e
    exact List.any_eq_true.mpr ⟨p, hp, tr_mono g k _ (stp_lt g h hp).2 e⟩
theorem count_less {a b : List Bool} (hl : a.length = b.length) (hm : ∀ s, tr a s = true → tr b s = true) (hn : a ≠ b) : a.count true < b.count true := by
  induction a generalizing b with
  | nil =>
    cases b with
    | nil => exact absurd rfl hn
    | cons _ _ => simp at hl
  | cons x a ih =>
    cases b with
    | nil => simp at hl
    | cons y b =>
      have hm' : ∀ s, tr a s = true → tr b s = true := fun s h => hm (s + 1) h
      have h0 : x = true → y = true := fun h => hm 0 h
      have hl' : a.length = b.length := by simpa using hl
      have le : a.count true ≤ b.count true := by
        by_cases e : a = b
        · rw [e]; exact Nat.le_refl _
        · exact Nat.le_of_lt (ih hl' hm' e)
      rw [List.count_cons, List.count_cons]
      by_cases e : a = b
      · subst e
        cases x with
        | true => rw [h0 rfl] at hn; exact absurd rfl hn
        | false =>
          cases y with
          | false => exact absurd rfl hn
          | true => simp
      · have := ih hl' hm' e
        cases x with
        | true => rw [h0 rfl]; simp; omega
        | false => simp; omega
theorem tr_out {C : Combs} {k s : Nat} (h : ¬ s < 128) : tr (rowAt C k) s = false := by
  unfold tr
  rw [List.getD_eq_getElem?_getD, List.getElem?_eq_none (by rw [row_length]; omega)]
  rfl
theorem row_less {C : Combs} (g : GC C) {k : Nat} (h : rowAt C (k + 1) ≠ rowAt C k) : (rowAt C (k + 1)).count true < (rowAt C k).count true := by
  refine count_less (by rw [row_length, row_length]) (fun s e => ?_) h
  by_cases hs : s < 128
  · exact tr_mono g k s hs e
  · rw [tr_out hs] at e; cases e
theorem range_len (lo : Int) (n : Nat) : ((List.range n).map fun i => V.int (lo + ((i : Nat) : Int))).length = n := by rw [List.length_map, List.length_range]
theorem at0 {x y : V} : atI [x, y] 0 = some x := show atI [x, y] ((0 : Nat) : Int) = _ from atI_nat rfl
theorem at1 {x y : V} : atI [x, y] 1 = some y := show atI [x, y] ((1 : Nat) : Int) = _ from atI_nat rfl
theorem stp_len {C : Combs} (h8 : C.length ≤ 8) (s : Nat) : (stp C s).length ≤ 8 := by
  unfold stp
  by_cases e : (s : Int) % 2 = 1
  · rw [steps_odd e]; exact Nat.le_of_ble_eq_true rfl
  · exact Nat.le_trans (steps_len e) h8
theorem at_end {α : Type} {ws : List α} {m : Nat} {x : α} (hl : ws.length = m + 1) (h : ws[m]? = some x) : atI ws (-1) = some x := by
  have hne : ws ≠ [] := fun z => by rw [z] at hl; simp at hl
  have e : ws = ws.dropLast ++ [ws.getLast hne] := (List.dropLast_concat_getLast hne).symm
  have e2 : ws.getLast hne = x := by
    rw [List.getLast_eq_getElem]
    have : ws[m]? = some (ws[ws.length - 1]'(by omega)) := by rw [List.getElem?_eq_getElem (by omega)]; congr 2; omega
    rw [h] at this
    exact (Option.some.inj this).symm
  rw [e, e2]
  exact at_last _ _
theorem eqv_bools (a b : List Bool) : PyData.eqv (.list (a.map PyData.bool)) (.list (b.map PyData.bool)) = decide (a = b) := by
  rw [PyData.eqv]
  induction a generalizing b with
  | nil => cases b with
    | nil => simp [PyData.eqvAll]
    | cons y b => simp [PyData.eqvAll]
  | cons x a ih => cases b with
    | nil => simp [PyData.eqvAll]
    | cons y b =>
      rw [List.map_cons, List.map_cons, PyData.eqvAll, ih b]
      cases x <;> cases y <;> simp [PyData.eqv]
theorem shaped_bools (a : List Bool) : SeqAt.shaped (.list (a.map PyData.bool)) = true := by
  have h1 : PyData.canLayAll0 (a.map PyData.bool) = true := by
    induction a with
    | nil => rfl
    | cons x a ih => rw [List.map_cons, PyData.canLayAll0, ih]; cases x <;> rfl
  have h2 : ∀ a : List Bool, PyData.depthAll (a.map PyData.bool) = 0 := by
    intro a
    induction a with
    | nil => rfl
    | cons x a ih => rw [List.map_cons, PyData.depthAll, ih]; rfl
  simp [SeqAt.shaped, PyData.canLay0, PyData.depth, h1, h2]
theorem vd_bools {K : PySem.W.Frag} {H : Hp} {a : Addr} {bs : List Bool} (h : H a = some (.lst (bs.map V.bl))) : VD K H (.ref a) (.list (bs.map PyData.bool)) := .lst (SqL.of h) (VDs.map fun x _ => .bl x)
/-- the rows one below the other, as they lie in the heap -/
def RowsR (H : Hp) (ws : List V) (C : Combs) (m : Nat) : Prop := ws.length = m + 1 ∧ ∀ i : Nat, i ≤ m → ∃ q, ws[i]? = some (.ref q) ∧ H q = some (.lst ((rowAt C i).map V.bl))
theorem RowsR.same {H H' : Hp} {ws : List V} {C : Combs} {m : Nat} (r : RowsR H ws C m) (s : Same H H') : RowsR H' ws C m := ⟨r.1, fun i h => let ⟨q, a, b⟩ := r.2 i h; ⟨q, a, s _ _ b⟩⟩
theorem RowsR.ne {H : Hp} {ws : List V} {C : Combs} {m : Nat} (r : RowsR H ws C m) {p q : Addr} {bs : List Bool} (hp : H p = some (.lst ws)) (hq : H q = some (.lst (bs.map V.bl))) : q ≠ p := fun z => by
  rw [z, hp] at hq
  obtain ⟨qa, e, _⟩ := r.2 0 (Nat.zero_le _)
  injection hq with hq
  injection hq with hq
  rw [hq, List.getElem?_map] at e
  cases h : bs[0]? with
  | none => rw [h] at e; cases e
  | some b => rw [h] at e; cases e
theorem RowsR.snoc {H : Hp} {ws : List V} {C : Combs} {m : Nat} (r : RowsR H ws C m) {p q : Addr} (hp : H p = some (.lst ws)) (hq : H q = some (.lst ((rowAt C (m + 1)).map V.bl))) : RowsR (upd H p (.lst (ws ++ [.ref q]))) (ws ++ [.ref q]) C (m + 1) := by
  refine ⟨by rw [List.length_append, r.1]; rfl, fun i hi => ?_⟩
  by_cases e : i = m + 1
  · subst e
    exact ⟨q, by rw [List.getElem?_append_right (by rw [r.1]; omega), r.1]; simp, by rw [upd_ne (r.ne hp hq)]; exact hq⟩
  · obtain ⟨qa, e1, e2⟩ := r.2 i (by omega)
    exact ⟨qa, by rw [List.getElem?_append_left (by rw [r.1]; omega)]; exact e1, by rw [upd_ne (r.ne hp e2)]; exact e2⟩
/-! ## list(d), xs.index(True) -/
theorem vals_of : ∀ {xs : List V} {us : List Value}, xs.length = us.length → (∀ (j : Nat) x u, xs[j]? = some x → us[j]? = some u → RelV x u) → Vals xs us
  | [], [], _, _ => .nil
  | x :: xs, u :: us, hl, h => .cons (h 0 x u rfl rfl) (vals_of (by simpa using hl) fun j y z e1 e2 => h (j + 1) y z (by simpa using e1) (by simpa using e2))
section
variable {X : Cx}
theorem call_listD (hc : X.calm = true) : CallR X (.type "list") (fun xs H Q => ∃ (a : Addr) (kvs : List (Key × V)), xs = [V.ref a] ∧ Rd H a (.dK kvs) ∧ ∀ l, H l = none → Q (.ref l) (upd H l (.lst (kvs.map fun kv => kV kv.1)))) := by
  intro pins s σ H xs us Q I r h
  obtain ⟨a, kvs, rfl, hq, q⟩ := h
  obtain ⟨u, rfl, ru⟩ := vals1 r
  cases ru
  obtain ⟨hz, lo, vs, kv, hD⟩ := (show ObjOk X.prog X.w H s.heap a (.dK kvs) from hq.ok I.hok)
  obtain ⟨ep, hat⟩ := hD.dictAt
  have hlen := kv.length
  refine PySem.W.kdl_call (PySem.W.kdl_dict (knd := mixKind X.prog X.w) (kvs := vs) (ep := ep) lo) (I.ok.hd hc) hat (by omega) fun h' tk acc c' hk hS hacc => ?_
  refine ⟨.ref s.heap.objs.size, _, I.laid (t' := tk) hk (Nat.le_refl _) (show ObjOk X.prog X.w _ h' _ (.lst (kvs.map fun kv => kV kv.1)) from ⟨by rw [List.length_map]; exact hz, acc.toList, c', vals_of ?_ ?_, by simpa using hS⟩), rfl, q _ (I.hok.fresh (Nat.le_refl _))⟩
  · have e := hacc.1
    rw [List.length_map, Array.length_toList]
    exact hlen.trans e.symm
  · intro j x u e1 e2
    obtain ⟨k, y, e3, hk2⟩ := hacc.2 j u (by rw [← Array.getElem?_toList]; exact e2)
    obtain ⟨v', e4, _⟩ := kv.get e3
    rw [List.getElem?_map, e4] at e1
    cases e1
    exact kV_rel hk2
def rIndexB : V → List V → Hp → VK → Prop := fun x vs H Q => ∃ (l : Addr) (bs : List Bool) (j : Nat), x = .ref l ∧ vs = [.bl true] ∧ H l = some (.lst (bs.map V.bl)) ∧ bs.length ≤ 1000 ∧ bs[j]? = some true ∧ (∀ m, m < j → bs[m]? = some false) ∧ Q (.int (j : Int)) H
theorem mt_indexB : MtM X "list.index" rIndexB := by
  intro pins s σ H x vs v us Q I rx rv h
  obtain ⟨l, bs, j, rfl, rfl, hH, hb, hj, hno, q⟩ := h
  cases rx
  obtain ⟨u, rfl, ru⟩ := rv.one
  cases ru
  obtain ⟨z, its, n, r, hl, e⟩ := I.lstM hH
  rw [List.length_map] at hl
  have hjl := (List.getElem?_eq_some_iff.mp hj).1
  have it : ∀ m (b : Bool), bs[m]? = some b → its[m]? = some (Value.bool b) := fun m b hm => by
    obtain ⟨w, e1, e2⟩ := r.get (i := m) (x := .bl b) (by rw [List.getElem?_map, hm]; rfl)
    cases e2
    exact e1
  refine call_meets F.slot_list_index ⟨_, e, rfl⟩ F.entry_list_index (F.args_list_index_2 _ _) (SeqAt.list_indexAt l its.toArray n none #[] (.bool true) (fun y => match y with | .bool b => b == true | _ => false) j (by rw [List.size_toArray]; omega) (by omega) ?_ ?_) ⟨e, fun y hy => ?_, ⟨.int _, H, I.tok _, ⟨_, rfl⟩, q⟩⟩
  · have := it j true hj
    simp [List.getElem?_eq_getElem (show j < its.length by omega)] at this
    simp [this]
  · intro m hm hlt
    have := it m false (hno m hlt)
    simp [List.getElem?_eq_getElem (show m < its.length by omega)] at this
    simp [this]
  · obtain ⟨m, hm, em⟩ := List.getElem_of_mem (show y ∈ its by simpa using hy)
    have hb' : bs[m]? = some (bs[m]'(by omega)) := List.getElem?_eq_getElem _
    have := it m _ hb'
    rw [List.getElem?_eq_getElem hm, em] at this
    rw [Option.some.inj this]
    exact SeqAt.EqAt.bool_bool _ _
end
/-! ## The walk that lasts -/
theorem nodup_bound : ∀ (n : Nat) (l : List Nat), l.Nodup → (∀ x ∈ l, x < n) → l.length ≤ n
  | 0, [], _, _ => Nat.le_refl _
  | 0, x :: l, _, h => absurd (h x List.mem_cons_self) (by omega)
  | n + 1, l, nd, h => by
    by_cases hn : n ∈ l
    · have e := List.length_erase_of_mem hn
      have := nodup_bound n (l.erase n) (nd.erase n) (fun x hx => by
        have h1 := h x (List.mem_of_mem_erase hx)
        have h2 : x ≠ n := ((List.Nodup.mem_erase_iff nd).mp hx).1
        omega)
      omega
    · have := nodup_bound n l nd (fun x hx => by
        have h1 := h x hx
        have h2 : x ≠ n := fun z => hn (z ▸ hx)
        omega)
      omega
def nx (C : Combs) (row : List Bool) (s : Nat) : Option (Str × Int) := (stp C s).find? fun p => tr row p.2.toNat
/-- the shape at the place i of the first way that lasts -/
def wk (C : Combs) (row : List Bool) (s : Nat) : Nat → Nat
  | 0 => s
  | i + 1 => ((nx C row (wk C row s i)).map (·.2.toNat)).getD 0
/-- the comb laid there, or the empty text -/
def wn (C : Combs) (row : List Bool) (s i : Nat) : Str := ((nx C row (wk C row s i)).map (·.1)).getD (Str.ofString "")
theorem nx_of {C : Combs} {row : List Bool} (g : GC C) (hr : nxtRow C row = row) {s : Nat} (hs : s < 128) (ht : tr row s = true) : ∃ p, nx C row s = some p ∧ p ∈ stp C s ∧ 0 ≤ p.2 ∧ p.2.toNat < 128 ∧ tr row p.2.toNat = true := by
  rw [← hr, tr_next hs] at ht
  cases e : nx C row s with
  | none =>
    have := List.find?_eq_none.mp e
    obtain ⟨p, hp, hq⟩ := List.any_eq_true.mp ht
    exact absurd hq (this p hp)
  | some p =>
    have hm : p ∈ stp C s := List.mem_of_find?_eq_some e
    exact ⟨p, rfl, hm, (stp_lt g hs hm).1, (stp_lt g hs hm).2, by have := List.find?_some e; exact this⟩
theorem wk_ok {C : Combs} {row : List Bool} (g : GC C) (hr : nxtRow C row = row) {s : Nat} (hs : s < 128) (ht : tr row s = true) : ∀ i, wk C row s i < 128 ∧ tr row (wk C row s i) = true
  | 0 => ⟨hs, ht⟩
  | i + 1 => by
    obtain ⟨h1, h2⟩ := wk_ok g hr hs ht i
    obtain ⟨p, e, _, _, h4, h5⟩ := nx_of g hr h1 h2
    have : wk C row s (i + 1) = p.2.toNat := by
      show ((nx C row (wk C row s i)).map (·.2.toNat)).getD 0 = _
      rw [e]; rfl
    rw [this]
    exact ⟨h4, h5⟩
theorem wk_step {C : Combs} {row : List Bool} (g : GC C) (hr : nxtRow C row = row) {s : Nat} (hs : s < 128) (ht : tr row s = true) (i : Nat) : nx C row (wk C row s i) = some (wn C row s i, (wk C row s (i + 1) : Int)) := by
  obtain ⟨h1, h2⟩ := wk_ok g hr hs ht i
  obtain ⟨p, e, _, h3, h4, h5⟩ := nx_of g hr h1 h2
  have a : wn C row s i = p.1 := by unfold wn; rw [e]; rfl
  have b : wk C row s (i + 1) = p.2.toNat := by
    show ((nx C row (wk C row s i)).map (·.2.toNat)).getD 0 = _
    rw [e]; rfl
  rw [e, a, b, show ((p.2.toNat : Nat) : Int) = p.2 by omega]
theorem wk_mem {C : Combs} {row : List Bool} (g : GC C) (hr : nxtRow C row = row) {s : Nat} (hs : s < 128) (ht : tr row s = true) (i : Nat) : (wn C row s i, (wk C row s (i + 1) : Int)) ∈ stp C (wk C row s i) := List.mem_of_find?_eq_some (wk_step g hr hs ht i)
/-- the shapes met, as a dict -/
def seenK (f : Nat → Nat) (i : Nat) : List (Key × V) := (List.range i).map fun j => (Sum.inl ((f j : Nat) : Int), V.int (j : Int))
theorem seenK_succ (f : Nat → Nat) (i : Nat) : seenK f (i + 1) = seenK f i ++ [(Sum.inl ((f i : Nat) : Int), V.int (i : Int))] := by
  unfold seenK
  rw [List.range_succ, List.map_append]
  rfl
theorem seenK_len (f : Nat → Nat) (i : Nat) : (seenK f i).length = i := by unfold seenK; rw [List.length_map, List.length_range]
theorem seenK_val (f : Nat → Nat) (i x : Nat) : valV (seenK f i) (Sum.inl (x : Int)) = ((List.range i).find? fun j => decide (f j = x)).map fun (j : Nat) => V.int (j : Int) := by
  unfold valV seenK
  have e : (fun j : Nat => decide ((Sum.inl ((f j : Nat) : Int) : Key) = Sum.inl (x : Int))) = fun j => decide (f j = x) := funext fun j => by
    rw [decide_eq_decide]
    constructor
    · intro h; injection h with h; omega
    · intro h; rw [h]
  rw [List.find?_map, Option.map_map]
  show Option.map (fun j : Nat => V.int (j : Int)) (List.find? (fun j : Nat => decide ((Sum.inl ((f j : Nat) : Int) : Key) = Sum.inl (x : Int))) (List.range i)) = _
  rw [e]
/-- the layings of the walk at the places below i, as they lie in the heap -/
def LaysR (H : Hp) (vs : List V) (n : Nat → Str) (i : Nat) : Prop := Paired (fun (j : Nat) (v : V) => ∃ q, v = .ref q ∧ H q = some (.tup [.int (j : Int), .str (n j)])) ((List.range i).filter fun j => decide (n j ≠ Str.ofString "")) vs
theorem LaysR.mono {H H' : Hp} {vs : List V} {n : Nat → Str} {i : Nat} (m : ∀ q xs, H q = some (.tup xs) → H' q = some (.tup xs)) (r : LaysR H vs n i) : LaysR H' vs n i := Paired.mapP r fun _ _ ⟨q, a, b⟩ => ⟨q, a, m _ _ b⟩
theorem LaysR.skip {H : Hp} {vs : List V} {n : Nat → Str} {i : Nat} (r : LaysR H vs n i) (h : n i = Str.ofString "") : LaysR H vs n (i + 1) := by
  unfold LaysR
  rw [List.range_succ, List.filter_append, List.filter_cons, if_neg (by simpa using h), List.filter_nil, List.append_nil]
  exact r
theorem LaysR.snoc {H : Hp} {vs : List V} {n : Nat → Str} {i : Nat} {q : Addr} (r : LaysR H vs n i) (h : n i ≠ Str.ofString "") (hq : H q = some (.tup [.int (i : Int), .str (n i)])) : LaysR H (vs ++ [.ref q]) n (i + 1) := by
  unfold LaysR
  rw [List.range_succ, List.filter_append, List.filter_cons, if_pos (by simpa using h), List.filter_nil]
  exact Paired.snoc r ⟨q, rfl, hq⟩
theorem LaysR.len {H : Hp} {vs : List V} {n : Nat → Str} {i : Nat} (r : LaysR H vs n i) : vs.length ≤ i := by
  rw [← Paired.length r]
  exact Nat.le_trans (List.length_filter_le _ _) (by rw [List.length_range]; omega)
/-! ## What the line's answer is, as data -/
theorem row_stays {C : Combs} {m : Nat} (h : nxtRow C (rowAt C m) = rowAt C m) : ∀ k, rowAt C (m + k) = rowAt C m
  | 0 => rfl
  | k + 1 => by
    show nxtRow C (rowAt C (m + k)) = _
    rw [row_stays h k, h]
theorem row_same {C : Combs} {m m' : Nat} (h : nxtRow C (rowAt C m) = rowAt C m) (h' : nxtRow C (rowAt C m') = rowAt C m') : rowAt C m = rowAt C m' := by
  rcases Nat.le_total m m' with e | e
  · rw [show m' = m + (m' - m) by omega, row_stays h]
  · rw [show m = m' + (m - m') by omega, row_stays h']
def LineD (C : Combs) (sp : Nat) (f : Nat → Nat) (nm : Nat → Str) : Prop := ∃ m s0 start n : Nat, nxtRow C (rowAt C m) = rowAt C m ∧ s0 < 128 ∧ tr (rowAt C m) s0 = true ∧ (∀ j, j < s0 → tr (rowAt C m) j = false) ∧ start < n ∧ n ≤ 128 ∧ wk C (rowAt C m) s0 n = wk C (rowAt C m) s0 start ∧ ((List.range n).map (wk C (rowAt C m) s0)).Nodup ∧
  sp = n - start ∧ f = (fun k => wk C (rowAt C m) s0 (start + k)) ∧ nm = fun k => wn C (rowAt C m) s0 (start + k)
def StuckD (C : Combs) (m : Nat) : Prop := nxtRow C (rowAt C m) = rowAt C m ∧ ∀ s, s < 128 → tr (rowAt C m) s = false
theorem nodup_at {f : Nat → Nat} {n i j : Nat} (nd : ((List.range n).map f).Nodup) (hi : i < n) (hj : j < n) (e : f i = f j) : i = j := by
  refine (List.getElem?_inj (l := (List.range n).map f) (by rw [List.length_map, List.length_range]; exact hi) nd).mp ?_
  rw [List.getElem?_map, List.getElem?_map, List.getElem?_range hi, List.getElem?_range hj, Option.map_some, Option.map_some, e]
theorem LineD.unique {C : Combs} {sp sp' : Nat} {f f' : Nat → Nat} {nm nm' : Nat → Str} (h : LineD C sp f nm) (h' : LineD C sp' f' nm') : sp = sp' ∧ f = f' ∧ nm = nm' := by
  obtain ⟨m, s0, st, n, a1, a2, a3, a4, a5, a6, a7, a8, rfl, rfl, rfl⟩ := h
  obtain ⟨m', s0', st', n', b1, b2, b3, b4, b5, b6, b7, b8, rfl, rfl, rfl⟩ := h'
  rw [← row_same a1 b1] at b3 b4 b7 b8 ⊢
  have es : s0 = s0' := by
    rcases Nat.lt_trichotomy s0 s0' with h | h | h
    · have := b4 s0 h; rw [a3] at this; cases this
    · exact h
    · have := a4 s0' h; rw [b3] at this; cases this
  subst es
  have en : n = n' := by
    rcases Nat.lt_trichotomy n n' with h | h | h
    · have := nodup_at b8 h (by omega) a7
      omega
    · exact h
    · have := nodup_at a8 h (by omega) b7
      omega
  subst en
  have e2 : st = st' := nodup_at a8 a5 b5 (a7.symm.trans b7)
  subst e2
  exact ⟨rfl, rfl, rfl⟩
theorem LineD.not {C : Combs} {sp : Nat} {f : Nat → Nat} {nm : Nat → Str} {m : Nat} (h : LineD C sp f nm) (h' : StuckD C m) : False := by
  obtain ⟨m', s0, st, n, a1, a2, a3, _⟩ := h
  have := h'.2 s0 a2
  rw [row_same h'.1 a1, a3] at this
  cases this
theorem LineD.span {C : Combs} {sp : Nat} {f : Nat → Nat} {nm : Nat → Str} (h : LineD C sp f nm) : 1 ≤ sp ∧ sp ≤ 128 ∧ f sp = f 0 := by
  obtain ⟨m', s0, st, n, a1, a2, a3, a4, a5, a6, a7, a8, rfl, rfl, rfl⟩ := h
  refine ⟨by omega, by omega, ?_⟩
  show wk C _ s0 (st + (n - st)) = wk C _ s0 (st + 0)
  rw [show st + (n - st) = n by omega, a7]
  rfl
theorem LineD.step {C : Combs} (g : GC C) {sp : Nat} {f : Nat → Nat} {nm : Nat → Str} (h : LineD C sp f nm) (k : Nat) : f k < 128 ∧ (nm k, (f (k + 1) : Int)) ∈ stp C (f k) := by
  obtain ⟨m', s0, st, n, a1, a2, a3, a4, a5, a6, a7, a8, rfl, rfl, rfl⟩ := h
  exact ⟨(wk_ok g a1 a2 a3 _).1, wk_mem g a1 a2 a3 (st + k)⟩
def cntD (C : Combs) (m s : Nat) : Nat := ((List.range (m + 1)).filter fun i => tr (rowAt C i) s).length
theorem tr_down {C : Combs} (g : GC C) {s : Nat} (hs : s < 128) {i : Nat} : ∀ k, tr (rowAt C (i + k)) s = true → tr (rowAt C i) s = true
  | 0, h => h
  | k + 1, h => tr_down g hs k (tr_mono g (i + k) s hs h)
/-- a down-closed part of a range is a range -/
theorem filter_down {p : Nat → Bool} (hd : ∀ i j, i ≤ j → p j = true → p i = true) : ∀ n, ∃ c, c ≤ n ∧ (List.range n).filter p = List.range c ∧ ∀ i, i < n → (p i = true ↔ i < c)
  | 0 => ⟨0, Nat.le_refl _, rfl, fun i h => by omega⟩
  | n + 1 => by
    obtain ⟨c, h1, h2, h3⟩ := filter_down hd n
    rw [List.range_succ, List.filter_append, h2, List.filter_cons, List.filter_nil]
    by_cases e : p n = true
    · have hc : c = n := by
        rcases Nat.lt_or_ge c n with z | z
        · have := (h3 c z).mp (hd c n (by omega) e)
          omega
        · omega
      subst hc
      refine ⟨c + 1, Nat.le_refl _, by rw [if_pos e, List.range_succ], fun i hi => ⟨fun _ => hi, fun _ => hd i c (by omega) e⟩⟩
    · refine ⟨c, by omega, by rw [if_neg e, List.append_nil], fun i hi => ?_⟩
      by_cases z : i = n
      · subst z
        exact ⟨fun h => absurd h e, fun h => by omega⟩
      · exact h3 i (by omega)
theorem cnt_less {C : Combs} (g : GC C) {m : Nat} (h : StuckD C m) {s : Nat} (hs : s < 128) {p : Str × Int} (hp : p ∈ stp C s) : cntD C m p.2.toNat < cntD C m s := by
  have hq := (stp_lt g hs hp).2
  obtain ⟨c, c1, c2, c3⟩ := filter_down (p := fun i => tr (rowAt C i) p.2.toNat) (fun i j hij hj => tr_down g hq (j - i) (by rwa [show i + (j - i) = j by omega])) (m + 1)
  obtain ⟨d, d1, d2, d3⟩ := filter_down (p := fun i => tr (rowAt C i) s) (fun i j hij hj => tr_down g hs (j - i) (by rwa [show i + (j - i) = j by omega])) (m + 1)
  unfold cntD
  rw [c2, d2, List.length_range, List.length_range]
  have hcm : c ≤ m := by
    rcases Nat.lt_or_ge m c with z | z
    · have := (c3 m (by omega)).mpr z
      rw [h.2 _ hq] at this
      cases this
    · exact z
  by_cases e : c = 0
  · have := (d3 0 (by omega)).mp (tr_zero hs)
    omega
  · have h1 : tr (rowAt C (c - 1)) p.2.toNat = true := (c3 (c - 1) (by omega)).mpr (by omega)
    have h2 : tr (rowAt C c) s = true := by
      rw [show c = (c - 1) + 1 by omega]
      show tr (nxtRow C (rowAt C (c - 1))) s = true
      rw [tr_next hs]
      exact List.any_eq_true.mpr ⟨p, hp, h1⟩
    have := (d3 c (by omega)).mp h2
    omega
theorem cnt_pos {C : Combs} {m s : Nat} (hs : s < 128) : 1 ≤ cntD C m s := by
  unfold cntD
  rw [List.range_succ_eq_map, List.filter_cons, if_pos (tr_zero hs)]
  simp
theorem filter_idx {α : Type} (js : List α) (p : α → Bool) (d : α) : ((List.range js.length).filter fun i => p (js.getD i d)).map (fun i => js.getD i d) = js.filter p := by
  induction js with
  | nil => rfl
  | cons x js ih =>
    rw [List.length_cons, List.range_succ_eq_map, List.filter_cons, List.filter_cons, List.filter_map]
    show _ = if p x = true then x :: js.filter p else js.filter p
    have e : List.map (fun i => (x :: js).getD i d) (List.map Nat.succ (List.filter ((fun i => p ((x :: js).getD i d)) ∘ Nat.succ) (List.range js.length))) = js.filter p := by
      rw [List.map_map, ← ih]
      rfl
    by_cases h : p x = true
    · rw [if_pos (by simpa using h), if_pos h, List.map_cons, e]
      rfl
    · rw [if_neg (by simpa using h), if_neg h, e]
theorem range_cut (n st : Nat) (h : st ≤ n) (P : Nat → Bool) : ((((List.range n).filter P).filter fun j => decide (st ≤ j)).map fun j => j - st) = (List.range (n - st)).filter fun k => P (st + k) := by
  have e : List.range n = List.range st ++ (List.range (n - st)).map fun k => st + k := by
    rw [← List.range_add]
    congr 1
    omega
  rw [List.filter_filter, e, List.filter_append, List.map_append]
  have h1 : (List.range st).filter (fun a => decide (st ≤ a) && P a) = [] := by
    rw [List.filter_eq_nil_iff]
    intro a ha
    have := List.mem_range.mp ha
    simp
    intro z
    omega
  rw [h1, List.map_nil, List.nil_append, List.filter_map, List.map_map]
  have h2 : ((fun j => j - st) ∘ fun k => st + k) = id := funext fun k => by show st + k - st = k; omega
  rw [h2, List.map_id]
  refine List.filter_congr fun k _ => ?_
  show (decide (st ≤ st + k) && P (st + k)) = P (st + k)
  rw [decide_eq_true (by omega), Bool.true_and]
end L2

namespace L2
open PySem PySem.Spec PyProof.Rows

/-! ## Walking a dict entry by entry, whatever its keys -/
section
variable {prog : Program} {w : World} {A : Around} {E : Value → Shared → Prop} {s : Shared} {d it : Addr} {o : Obj} {es : Array DictEntry} {ep i : Nat}
end
/-! ## Walking a dict whose keys are tuples -/
theorem Paired.rev {α β : Type} {R : α → β → Prop} : ∀ {l : List α} {m : List β} {i : Nat} {y : β}, Paired R l m → m[i]? = some y → ∃ x, l[i]? = some x ∧ R x y
  | _, _, i, x, .nil, h => by simp at h
  | _, _, 0, x, .cons h r, e => by
    simp at e
    subst e
    exact ⟨_, rfl, h⟩
  | _, _, i + 1, x, .cons h r, e => by
    obtain ⟨y, e1, e2⟩ := Paired.rev (i := i) r (by simpa using e)
    exact ⟨y, by simpa using e1, e2⟩
section
variable {X : Cx} {pins : List (Addr × Obj)} {σ : St} {H : Hp} {s : Shared} {a : Addr} {kvs : List (List Key × V)}
end
section
variable {X : Cx} {tg : Expr}
end
/-! ## len(d), dict(d), whatever the keys -/
section
variable {prog : Program} {w : World} {A : Around} {E : Value → Shared → Prop} {s : Shared} {d : Addr} {o : Obj} {es : Array DictEntry} {ep : Nat}
end
def kI (ns : List Int) : List Key := ns.map Sum.inl
theorem kI_inj : ∀ {a b : List Int}, kI a = kI b → a = b
  | [], [], _ => rfl
  | [], _ :: _, h => by cases h
  | _ :: _, [], h => by cases h
  | x :: a, y :: b, h => by
    unfold kI at h
    rw [List.map_cons, List.map_cons] at h
    injection h with h1 h2
    injection h1 with h1
    rw [h1, kI_inj h2]
section
variable {X : Cx}
end
end L2

namespace L2
open PySem PySem.Spec PyProof.Rows

/-! ## The rows do not hang on the order of the combs -/
theorem steps_perm {C C' : Combs} (p : C.Perm C') (n : Int) : (stepsOf C n).Perm (stepsOf C' n) := by
  unfold stepsOf
  split
  · exact List.Perm.refl _
  · exact (p.filter _).map _
theorem any_perm {α : Type} {l l' : List α} (p : l.Perm l') (f : α → Bool) : l.any f = l'.any f := by
  rw [Bool.eq_iff_iff, List.any_eq_true, List.any_eq_true]
  exact ⟨fun ⟨x, h, e⟩ => ⟨x, p.mem_iff.mp h, e⟩, fun ⟨x, h, e⟩ => ⟨x, p.mem_iff.mpr h, e⟩⟩
theorem nxtRow_perm {C C' : Combs} (p : C.Perm C') (r : List Bool) : nxtRow C r = nxtRow C' r := by
  unfold nxtRow
  exact List.map_congr_left fun s _ => any_perm (steps_perm p _) _
theorem rowAt_perm {C C' : Combs} (p : C.Perm C') : ∀ k, rowAt C k = rowAt C' k
  | 0 => rfl
  | k + 1 => by
    show nxtRow C (rowAt C k) = nxtRow C' (rowAt C' k)
    rw [rowAt_perm p k, nxtRow_perm p]
theorem cntD_perm {C C' : Combs} (p : C.Perm C') (m s : Nat) : cntD C m s = cntD C' m s := by
  unfold cntD
  congr 1
  exact List.filter_congr fun i _ => by rw [rowAt_perm p]
theorem StuckD.perm {C C' : Combs} (p : C.Perm C') {m : Nat} (h : StuckD C m) : StuckD C' m := by
  unfold StuckD at h ⊢
  rw [← rowAt_perm p, ← nxtRow_perm p]
  exact h
/-! ## The greatest count -/
/-! ## The graph of all shapes, as it lies in the heap -/
def akey (s : Nat) : List Key := kI (aheadOf (s : Int))
theorem goes_steps {ks : Combs} {s : Nat} (hs : s < 128) (g : GC ks) : (goesOf ks (aheadOf (s : Int))).map (fun p => (p.1, worth p.2)) = stp ks s := steps_goes (by omega) (by omega) g
/-- a place further, by its number -/
theorem goes_key {ks : Combs} {s : Nat} (hs : s < 128) (g : GC ks) {p : Str × List Int} (hp : p ∈ goesOf ks (aheadOf (s : Int))) : (worth p.2).toNat < 128 ∧ 0 ≤ worth p.2 ∧ kI p.2 = akey (worth p.2).toNat ∧ (p.1, worth p.2) ∈ stp ks s := by
  have hm : (p.1, worth p.2) ∈ stp ks s := by rw [← goes_steps hs g]; exact List.mem_map.mpr ⟨p, hp, rfl⟩
  have hlt := stp_lt g hs hm
  refine ⟨hlt.2, hlt.1, ?_, hm⟩
  have : ∃ a b, p.2 = afterOf a b := by
    unfold goesOf at hp
    split at hp
    · rw [List.mem_singleton.mp hp]; exact ⟨_, _, rfl⟩
    · obtain ⟨c, _, rfl⟩ := List.mem_map.mp hp; exact ⟨_, _, rfl⟩
  obtain ⟨a, b, e⟩ := this
  unfold akey
  rw [show (((worth p.2).toNat : Nat) : Int) = worth p.2 by have := hlt.1; show _ = _; omega]
  congr 1
  rw [e]
  have hs : afterOf a b = ((List.range 7).filter fun i => decide (((i : Nat) : Int) ∈ afterOf a b)).map fun i => ((i : Nat) : Int) := by
    refine same_sorted ?_ ((after_lt a b).imp fun h => by omega) ?_
    · rw [List.perm_ext_iff_of_nodup (nodup_lt (after_lt a b))]
      · intro t
        simp only [List.mem_map, List.mem_filter, List.mem_range, decide_eq_true_eq]
        constructor
        · intro h
          have := after_in t h
          exact ⟨t.toNat, ⟨by omega, by rwa [show ((t.toNat : Nat) : Int) = t by omega]⟩, by omega⟩
        · rintro ⟨i, ⟨_, h⟩, rfl⟩
          exact h
      · refine nodup_lt ?_
        rw [List.pairwise_map]
        refine List.Pairwise.sublist List.filter_sublist (List.Pairwise.imp ?_ (List.pairwise_lt_range (n := 7)))
        intro a b h
        omega
    · rw [List.pairwise_map]
      refine List.Pairwise.sublist List.filter_sublist (List.Pairwise.imp ?_ (List.pairwise_lt_range (n := 7)))
      intro a b h
      omega
  rw [hs]
  exact (ahead_worth _).symm
end L2
namespace L2
open PySem PySem.Spec PyProof.Rows
end L2
namespace L2
open PySem PySem.Spec PyProof.Rows
/-- a comprehension over tuples of two, taken apart -/
theorem comp_x2 {K : PySem.W.Frag} {J : It} {Ok : Hp → Prop} {L : List V} {tf : TT} {te : TE} {D : Addr} {σ0 capv : St} {H1 : Hp} {Q : VK} (hσ : σ0 = none :: none :: capv) (G : Gives J Ok L) (hL : L.length ≤ sizeLine) (hD : H1 D = none) (hOk : ∀ H, Same H1 H → Ok H) (X Y : Nat → V) (hXY : ∀ (i : Nat) x, L[i]? = some x → ∃ q, x = .ref q ∧ H1 q = some (.tup [X i, Y i])) (p : Nat → Bool) (Rel : Hp → Nat → V → Prop)
    (hm : ∀ H H' i v, Same H H' → Rel H i v → Rel H' i v) (hw : ∀ H i v l l', v ≠ .ref D → H D = some (.lst l) → Rel H i v → Rel (upd H D (.lst l')) i v)
    (ht : ∀ i, i < L.length → ∀ H R, Same H1 H → (∀ H', Same H H' → R (p i) H') → tf (some (X i) :: some (Y i) :: capv) H R)
    (he : ∀ i, i < L.length → p i = true → ∀ H R, Same H1 H → H D ≠ none → (∀ H' v, Same H H' → v ≠ .ref D → Rel H' i v → R v H') → te (some (X i) :: some (Y i) :: capv) H R)
    (hd : ∀ H ys, Same H1 H → H D = some (.lst ys) → Paired (fun i y => y ≠ .ref D ∧ Rel H i y) ((List.range L.length).filter p) ys → Q (.ref D) H) :
    CompW J D σ0 H1 (gTup K 2 (gCons (gName 0) (gCons (gName 1) gNil))) tf te Q := by
  subst hσ
  refine comp_g G (fun i xs σ H => (∃ o1 o2, σ = o1 :: o2 :: capv) ∧ Same H1 H ∧ H D = some (.lst xs) ∧ Paired (fun i y => y ≠ .ref D ∧ Rel H i y) ((List.range i).filter p) xs) ⟨⟨none, none, rfl⟩, Same.new hD, upd_same, .nil⟩ (fun i xs σ H _ h => hOk H h.2.1) ?_ ?_
  · rintro i x xs σ H hi hx ⟨⟨o1, o2, rfl⟩, s, e, hr⟩
    obtain ⟨qx, rfl, hqx⟩ := hXY i x hx
    refine ⟨qx, [X i, Y i], rfl, SqT.of (s _ _ hqx), rfl, _, _, rfl, _, _, rfl, rfl, ?_⟩
    show tf (some (X i) :: some (Y i) :: capv) H _
    refine ht i hi H _ s fun H' s' => ?_
    have hxl : xs.length ≤ i := by
      rw [← Paired.length hr]
      exact Nat.le_trans (List.length_filter_le _ _) (by rw [List.length_range]; omega)
    have efil : (List.range (i + 1)).filter p = (List.range i).filter p ++ if p i = true then [i] else [] := by
      rw [List.range_succ, List.filter_append]
      congr 1
      rw [List.filter_cons, List.filter_nil]
    cases hp : p i with
    | true =>
      rw [if_pos rfl]
      refine he i hi hp H' _ (s.trans s') (by rw [s' _ _ e]; exact nofun) fun H2 v s2 hv rv => ?_
      have e2 := s2 _ _ (s' _ _ e)
      refine CNext.of hi hL e2 hxl ⟨⟨_, _, rfl⟩, ((s.trans s').trans s2).put hD, upd_same, ?_⟩
      rw [efil, if_pos hp]
      exact Paired.snoc (Paired.mapP hr fun j y z => ⟨z.1, hw _ _ _ _ _ z.1 e2 (hm _ _ _ _ (s'.trans s2) z.2)⟩) ⟨hv, hw _ _ _ _ _ hv e2 rv⟩
    | false =>
      rw [if_neg Bool.false_ne_true]
      refine CSkip.of (xs := xs) hi ⟨⟨_, _, rfl⟩, s.trans s', s' _ _ e, ?_⟩
      rw [efil, if_neg (by rw [hp]; exact Bool.false_ne_true), List.append_nil]
      exact Paired.mapP hr fun j y z => ⟨z.1, hm _ _ _ _ s' z.2⟩
  · rintro xs σ H ⟨_, s, e, hr⟩
    exact hd H xs s e hr
/-- from the ways on as places: the tuples -/
theorem GoesR.nth {H : Hp} {vs : List V} {gs : List (Str × List Int)} (r : GoesR H vs gs) {i : Nat} {x : V} (h : vs[i]? = some x) : ∃ q t, x = .ref q ∧ H q = some (.tup [.str (gs.getD i ("", [])).1, .ref t]) ∧ H t = some (.tup ((gs.getD i ("", [])).2.map V.int)) ∧ i < gs.length := by
  have hi : i < gs.length := by rw [← r.length]; exact (List.getElem?_eq_some_iff.mp h).1
  obtain ⟨q, t, e1, e2, e3⟩ := r.get (List.getElem?_eq_getElem hi)
  rw [h] at e1
  cases e1
  refine ⟨q, t, rfl, ?_, ?_, hi⟩
  · rw [List.getD_eq_getElem?_getD, List.getElem?_eq_getElem hi]; exact e2
  · rw [List.getD_eq_getElem?_getD, List.getElem?_eq_getElem hi]; exact e3
end L2
namespace L2
open PySem PySem.Spec PyProof.Rows
end L2
namespace L2
open PySem PySem.Spec PyProof.Rows
theorem pg_tup' {X : Cx} {pos : Pos} (K : PySem.W.Frag) (hK : X.K = K) {es : List Expr} {k : Nat} {t : TGs} {n : Nat} (hc : X.calm = true) (h : PGs X es t)
    (hn : (assignEach es X.env).length = n := by rfl) (hst : (assignEach es X.env).findIdx? (·.1) = none := by rfl) : PG X (.Tuple es k pos) (gTup K n t) := by
  subst hK
  exact pg_tup hc h hn hst
end L2

namespace L2
open PySem PySem.Spec PyProof.Rows

/-! ## Places under teeth, round and round -/
def ind (b : Bool) : Nat := if b = true then 1 else 0
def sumR (n : Nat) (g : Nat → Nat) : Nat := ((List.range n).map g).sum
theorem sumR_zero (g : Nat → Nat) : sumR 0 g = 0 := rfl
theorem sumR_succ (n : Nat) (g : Nat → Nat) : sumR (n + 1) g = sumR n g + g n := by
  unfold sumR
  rw [List.range_succ, List.map_append, List.sum_append]
  simp
theorem sumR_congr {n : Nat} {g h : Nat → Nat} (e : ∀ i, i < n → g i = h i) : sumR n g = sumR n h := by
  unfold sumR
  congr 1
  exact List.map_congr_left fun i hi => e i (List.mem_range.mp hi)
theorem sumR_nil {n : Nat} {g : Nat → Nat} (e : ∀ i, i < n → g i = 0) : sumR n g = 0 := by
  induction n with
  | zero => rfl
  | succ n ih => rw [sumR_succ, ih fun i hi => e i (by omega), e n (by omega)]
theorem sumR_add (n : Nat) (g h : Nat → Nat) : sumR n (fun i => g i + h i) = sumR n g + sumR n h := by
  induction n with
  | zero => rfl
  | succ n ih => rw [sumR_succ, sumR_succ, sumR_succ, ih]; omega
theorem sumR_swap (n m : Nat) (g : Nat → Nat → Nat) : sumR n (fun i => sumR m (g i)) = sumR m fun j => sumR n fun i => g i j := by
  induction n with
  | zero => exact (sumR_nil fun _ _ => rfl).symm
  | succ n ih =>
    rw [sumR_succ, ih, ← sumR_add]
    exact sumR_congr fun j _ => by rw [sumR_succ]
theorem sumR_one {n j0 : Nat} {p : Nat → Bool} {g : Nat → Nat} (hj : j0 < n) (hp : ∀ j, j < n → (p j = true ↔ j = j0)) : sumR n (fun j => if p j = true then g j else 0) = g j0 := by
  induction n with
  | zero => omega
  | succ n ih =>
    rw [sumR_succ]
    by_cases e : j0 = n
    · subst e
      rw [sumR_nil fun i hi => if_neg (fun z => by have := (hp i (by omega)).mp z; omega), if_pos ((hp j0 (by omega)).mpr rfl), Nat.zero_add]
    · rw [ih (by omega) fun j hj' => hp j (by omega), if_neg (fun z => e ((hp n (by omega)).mp z).symm), Nat.add_zero]
theorem mod_cancel {a b t n : Nat} (h : (a + t) % n = (b + t) % n) : a % n = b % n := by
  have h1 := Nat.div_add_mod (a + t) n
  have h2 := Nat.div_add_mod (b + t) n
  rcases Nat.le_total a b with z | z
  · obtain ⟨m, hm⟩ := Nat.le.dest (Nat.div_le_div_right (c := n) (show a + t ≤ b + t by omega))
    have : b = a + n * m := by rw [← hm, Nat.mul_add] at h2; omega
    rw [this, Nat.add_mul_mod_self_left]
  · obtain ⟨m, hm⟩ := Nat.le.dest (Nat.div_le_div_right (c := n) (show b + t ≤ a + t by omega))
    have : a = b + n * m := by rw [← hm, Nat.mul_add] at h1; omega
    rw [this, Nat.add_mul_mod_self_left]
/-- one place in a round -/
theorem round_one {sp t K : Nat} (hsp : 1 ≤ sp) (hK : t ≤ K) {g : Nat → Nat} (per : ∀ k, g (k + sp) = g k) : sumR sp (fun j => if decide ((j + t) % sp = K % sp) = true then g j else 0) = g (K - t) := by
  have per2 : ∀ n k, g (k + n * sp) = g k := by
    intro n
    induction n with
    | zero => intro k; simp
    | succ n ih => intro k; rw [Nat.succ_mul, ← Nat.add_assoc, per, ih]
  have hm : g (K - t) = g ((K - t) % sp) := by
    have := per2 ((K - t) / sp) ((K - t) % sp)
    rw [← this]
    congr 1
    have := Nat.mod_add_div (K - t) sp
    rw [Nat.mul_comm] at this
    exact this.symm
  rw [hm]
  refine sumR_one (Nat.mod_lt _ (by omega)) fun j hj => ?_
  rw [decide_eq_true_eq]
  constructor
  · intro h
    have h1 : (j + t) % sp = ((K - t) + t) % sp := by rw [Nat.sub_add_cancel hK]; exact h
    have h2 : j % sp = (K - t) % sp := mod_cancel h1
    rw [Nat.mod_eq_of_lt hj] at h2
    exact h2
  · intro h
    rw [h, Nat.mod_add_mod, Nat.sub_add_cancel hK]
structure Tile (sp : Nat) (al ta : Nat → Nat → Bool) : Prop where
  pos : 1 ≤ sp
  pa : ∀ k d, al (k + sp) d = al k d
  pt : ∀ k d, ta (k + sp) d = ta k d
  la : ∀ k d, 7 ≤ d → al k d = false
  lt : ∀ k d, 8 ≤ d → ta k d = false
  one : ∀ k, ind (al k 0) + ind (ta k 0) = 1
  step : ∀ k d, ind (al (k + 1) d) = ind (al k (d + 1)) + ind (ta k (d + 1))
namespace Tile
variable {sp : Nat} {al ta : Nat → Nat → Bool}
theorem back (T : Tile sp al ta) (k : Nat) : ∀ n d, ind (al (k + n) d) = ind (al k (d + n)) + sumR n fun i => ind (ta (k + i) (d + n - i))
  | 0, d => by simp [sumR_zero]
  | n + 1, d => by
    rw [← Nat.add_assoc, T.step, T.back k n (d + 1), sumR_succ]
    rw [show d + 1 + n = d + (n + 1) by omega, show d + (n + 1) - n = d + 1 by omega]
    omega
theorem back8 (T : Tile sp al ta) (M d : Nat) : ind (al (M + 8) d) = sumR 8 fun i => ind (ta (M + i) (d + 8 - i)) := by
  rw [T.back M 8 d, T.la M (d + 8) (by omega)]
  show 0 + _ = _
  rw [Nat.zero_add]
/-- each place is under one tooth -/
theorem under (T : Tile sp al ta) {r : Nat} (hr : r < sp) : sumR sp (fun j => sumR 8 fun t => if decide ((j + t) % sp = r) = true then ind (ta j t) else 0) = 1 := by
  rw [sumR_swap]
  have h8 : 8 ≤ 8 * sp := by have := T.pos; omega
  have e : ∀ t, t < 8 → sumR sp (fun j => if decide ((j + t) % sp = r) = true then ind (ta j t) else 0) = ind (ta (r + 8 * sp - t) t) := fun t ht => by
    have := round_one (t := t) (K := r + 8 * sp) T.pos (by omega) (g := fun j => ind (ta j t)) (fun k => by show ind (ta (k + sp) t) = ind (ta k t); rw [T.pt])
    rw [Nat.add_mul_mod_self_right, Nat.mod_eq_of_lt hr] at this
    exact this
  rw [sumR_congr e]
  have h1 := T.one (r + 8 * sp)
  obtain ⟨M, hM⟩ : ∃ M, r + 8 * sp = M + 8 := ⟨r + 8 * sp - 8, by omega⟩
  rw [hM] at h1 ⊢
  rw [T.back8] at h1
  have h9 := T.lt M 8 (by omega)
  simp only [sumR_succ, sumR_zero, Nat.zero_add, Nat.add_zero, Nat.sub_zero] at h1 ⊢
  rw [h9] at h1
  have z : ind false = 0 := rfl
  rw [z] at h1
  rw [show M + 8 - 1 = M + 7 by omega, show M + 8 - 2 = M + 6 by omega, show M + 8 - 3 = M + 5 by omega, show M + 8 - 4 = M + 4 by omega, show M + 8 - 5 = M + 3 by omega, show M + 8 - 6 = M + 2 by omega, show M + 8 - 7 = M + 1 by omega]
  rw [show 8 - 1 = 7 by omega, show 8 - 2 = 6 by omega, show 8 - 3 = 5 by omega, show 8 - 4 = 4 by omega, show 8 - 5 = 3 by omega, show 8 - 6 = 2 by omega, show 8 - 7 = 1 by omega] at h1
  omega
end Tile
end L2
namespace L2
open PySem PySem.Spec PyProof.Rows
/-! ## The line's filling is such a round -/
theorem wk_round {C : Combs} {row : List Bool} {s0 st n : Nat} (h : wk C row s0 n = wk C row s0 st) : ∀ j, wk C row s0 (n + j) = wk C row s0 (st + j)
  | 0 => h
  | j + 1 => by
    show ((nx C row (wk C row s0 (n + j))).map (·.2.toNat)).getD 0 = ((nx C row (wk C row s0 (st + j))).map (·.2.toNat)).getD 0
    rw [wk_round h j]
theorem LineD.per {C : Combs} {sp : Nat} {f : Nat → Nat} {nm : Nat → Str} (h : LineD C sp f nm) (k : Nat) : f (k + sp) = f k ∧ nm (k + sp) = nm k := by
  obtain ⟨m', s0, st, n, a1, a2, a3, a4, a5, a6, a7, a8, rfl, rfl, rfl⟩ := h
  have e : wk C (rowAt C m') s0 (st + (k + (n - st))) = wk C (rowAt C m') s0 (st + k) := by
    rw [show st + (k + (n - st)) = n + k by omega]
    exact wk_round a7 k
  refine ⟨e, ?_⟩
  show wn C _ s0 (st + (k + (n - st))) = wn C _ s0 (st + k)
  unfold wn
  rw [e]
theorem LineD.go {C : Combs} (g : GC C) {sp : Nat} {f : Nat → Nat} {nm : Nat → Str} (h : LineD C sp f nm) (k : Nat) :
    ((0 : Int) ∈ aheadOf (f k : Int) ∧ nm k = Str.ofString "" ∧ aheadOf (f (k + 1) : Int) = afterOf (aheadOf (f k : Int)) []) ∨ ((0 : Int) ∉ aheadOf (f k : Int) ∧ ∃ c ∈ C, nm k = c.1 ∧ meets (aheadOf (f k : Int)) c.2 = false ∧ aheadOf (f (k + 1) : Int) = afterOf (aheadOf (f k : Int)) c.2) := by
  obtain ⟨hlt, hm⟩ := h.step g k
  rw [← goes_steps hlt g] at hm
  obtain ⟨p, hp, e⟩ := List.mem_map.mp hm
  obtain ⟨_, k2, k3, _⟩ := goes_key hlt g hp
  injection e with e1 e2
  have e3 : p.2 = aheadOf (f (k + 1) : Int) := by
    have := kI_inj k3
    rw [this, e2]
    congr 1
  unfold goesOf at hp
  by_cases h0 : (0 : Int) ∈ aheadOf (f k : Int)
  · rw [if_pos h0] at hp
    have hp := List.mem_singleton.mp hp
    refine .inl ⟨h0, ?_, ?_⟩
    · rw [← e1, hp]
    · rw [← e3, hp]
  · rw [if_neg h0] at hp
    obtain ⟨c, hc, rfl⟩ := List.mem_map.mp hp
    obtain ⟨hc1, hc2⟩ := List.mem_filter.mp hc
    exact .inr ⟨h0, c, hc1, e1.symm, by simpa using hc2, e3.symm⟩
def tkOf (C : Combs) (x : Str) : List Int := (cGet C x).getD []
theorem mem_after {ah ts : List Int} (ha : ∀ t ∈ ah, 0 ≤ t ∧ t ≤ 6) (ht : ∀ t ∈ ts, 0 ≤ t ∧ t ≤ 7) (d : Nat) : (d : Int) ∈ afterOf ah ts ↔ ((d + 1 : Nat) : Int) ∈ ah ∨ ((d + 1 : Nat) : Int) ∈ ts := by
  unfold afterOf
  rw [List.mem_map]
  constructor
  · rintro ⟨y, hy, e⟩
    obtain ⟨h1, h2⟩ := List.mem_filter.mp hy
    have h3 := (mem_canon.mp h1).1
    rw [show ((d + 1 : Nat) : Int) = y by omega]
    exact List.mem_append.mp h3
  · intro h
    refine ⟨((d + 1 : Nat) : Int), List.mem_filter.mpr ⟨mem_canon.mpr ⟨List.mem_append.mpr h, ?_⟩, decide_eq_true (by omega)⟩, by omega⟩
    rcases h with h | h
    · have := ha _ h; omega
    · exact ht _ h
theorem LineD.tile {C : Combs} (g : GC C) (nd : (C.map (·.1)).Nodup) (ne : ∀ c ∈ C, c.1 ≠ Str.ofString "") {sp : Nat} {f : Nat → Nat} {nm : Nat → Str} (h : LineD C sp f nm) :
    Tile sp (fun k d => decide ((d : Int) ∈ aheadOf (f k : Int))) (fun k t => decide ((t : Int) ∈ tkOf C (nm k))) := by
  have hnone : cGet C (Str.ofString "") = none := get_none.mpr fun z => by
    obtain ⟨c, hc, e⟩ := List.mem_map.mp z
    exact ne c hc e
  have hin : ∀ k t, t ∈ tkOf C (nm k) → 0 ≤ t ∧ t ≤ 7 := fun k t ht => by
    unfold tkOf at ht
    cases e : cGet C (nm k) with
    | none => rw [e] at ht; cases ht
    | some ts => rw [e] at ht; exact gt_in (g _ (get_mem e)) t ht
  refine ⟨h.span.1, fun k d => by rw [(h.per k).1], fun k d => by rw [(h.per k).2], fun k d hd => ?_, fun k d hd => ?_, fun k => ?_, fun k d => ?_⟩
  · exact decide_eq_false fun z => by have := (mem_ahead.mp z).2.1; omega
  · exact decide_eq_false fun z => by have := (hin k _ z).2; omega
  · rcases h.go g k with ⟨h0, e1, _⟩ | ⟨h0, c, hc, e1, _⟩
    · have : (0 : Int) ∉ tkOf C (nm k) := by unfold tkOf; rw [e1, hnone]; exact nofun
      rw [decide_eq_true (show ((0 : Nat) : Int) ∈ _ from h0), decide_eq_false (show ¬ ((0 : Nat) : Int) ∈ _ from this)]
      rfl
    · have : (0 : Int) ∈ tkOf C (nm k) := by unfold tkOf; rw [e1, mem_get nd hc]; exact gt_zero (g c hc)
      rw [decide_eq_false (show ¬ ((0 : Nat) : Int) ∈ _ from h0), decide_eq_true (show ((0 : Nat) : Int) ∈ _ from this)]
      rfl
  · rcases h.go g k with ⟨h0, e1, e2⟩ | ⟨h0, c, hc, e1, hmt, e2⟩
    · have : ((d + 1 : Nat) : Int) ∉ tkOf C (nm k) := by unfold tkOf; rw [e1, hnone]; exact nofun
      rw [e2, decide_eq_false this]
      have := mem_after (ah := aheadOf (f k : Int)) (ts := []) ahead_in (by simp) d
      have e : decide ((d : Int) ∈ afterOf (aheadOf (f k : Int)) []) = decide (((d + 1 : Nat) : Int) ∈ aheadOf (f k : Int)) := by
        rw [decide_eq_decide, this]; simp
      rw [e]
      rfl
    · have ht : tkOf C (nm k) = c.2 := by unfold tkOf; rw [e1, mem_get nd hc]; rfl
      rw [e2, ht]
      have hm := mem_after (ah := aheadOf (f k : Int)) (ts := c.2) ahead_in (gt_in (g c hc)) d
      have hx := meets_false.mp hmt
      by_cases b1 : ((d + 1 : Nat) : Int) ∈ aheadOf (f k : Int)
      · have b2 : ((d + 1 : Nat) : Int) ∉ c.2 := fun z => hx _ z b1
        rw [decide_eq_true (hm.mpr (.inl b1)), decide_eq_true b1, decide_eq_false b2]
        rfl
      · by_cases b2 : ((d + 1 : Nat) : Int) ∈ c.2
        · rw [decide_eq_true (hm.mpr (.inr b2)), decide_eq_false b1, decide_eq_true b2]
          rfl
        · rw [decide_eq_false (fun z => by rcases hm.mp z with z | z; exact b1 z; exact b2 z), decide_eq_false b1, decide_eq_false b2]
          rfl
end L2
namespace L2
open PySem PySem.Spec PyProof.Rows
theorem tk_perm {C C' : Combs} (p : C.Perm C') (nd : (C.map (·.1)).Nodup) (x : Str) : cGet C x = cGet C' x := by
  have nd' : (C'.map (·.1)).Nodup := (p.map _).nodup_iff.mp nd
  cases e : cGet C x with
  | none =>
    symm
    rw [get_none] at e ⊢
    exact fun z => e ((p.map _).mem_iff.mpr z)
  | some ts => exact (mem_get nd' (p.mem_iff.mp (get_mem e))).symm
def laid (nm : Nat → Str) (sp : Nat) : List Nat := (List.range sp).filter fun j => decide (nm j ≠ Str.ofString "")
end L2
namespace L2
open PySem PySem.Spec PyProof.Rows
theorem KindsL.getG {G : Addr → Prop} {H : Hp} : ∀ {vs : List V} {ks : List (Str × List Int)} {i : Nat} {v : V}, KindsL G H vs ks → vs[i]? = some v → ∃ k q t, ks[i]? = some k ∧ v = .ref q ∧ H q = some (.lst [.str k.1, .ref t]) ∧ H t = some (.lst (k.2.map V.int)) ∧ G t
  | [], [], _, _, _, e => by simp at e
  | _ :: _, k :: _, 0, _, ⟨⟨q, t, e, h1, h2, g1, g2⟩, _⟩, z => by
    simp at z
    subst z
    exact ⟨k, q, t, rfl, e, h1, h2, g2⟩
  | _ :: _, _ :: _, i + 1, _, ⟨_, b⟩, z => by
    obtain ⟨k, q, t, h⟩ := KindsL.getG (i := i) b (by simpa using z)
    exact ⟨k, q, t, by simpa using h⟩
  | [], _ :: _, _, _, x, _ => x.elim
  | _ :: _, [], _, _, x, _ => x.elim
end L2

namespace L2
open PySem PySem.Spec PyProof.Rows
/-! ## The list sort with merges: comparisons by a rank -/
section
variable {prog : Program} {w : World} {A : Around} {E : Value → Shared → Prop} {s : Shared} {kd : SortKind} {S : Keyed → Prop} {rk : Keyed → Int}
end
end L2

namespace L2
open PySem PySem.Spec PyProof.Rows
/-! ## Two sorted lists laid together -/
section
variable {rk : Keyed → Int} {la lb out : List Keyed} {ia ib : Nat}
end
section
variable {prog : Program} {w : World} {A : Around} {E : Value → Shared → Prop} {s : Shared} {kd : SortKind} {S : Keyed → Prop} {rk : Keyed → Int}
end
end L2

namespace L2
open PySem PySem.Spec PyProof.Rows
/-! ## Two sorted lists laid together from the right -/
section
variable {rk : Keyed → Int} {la lb out : List Keyed} {na nb : Nat}
end
section
variable {prog : Program} {w : World} {A : Around} {E : Value → Shared → Prop} {s : Shared} {kd : SortKind} {S : Keyed → Prop} {rk : Keyed → Int}
end
end L2

namespace L2
open PySem PySem.Spec PyProof.Rows
/-! ## Runs: counted and made -/
section
variable {prog : Program} {w : World} {A : Around} {E : Value → Shared → Prop} {s : Shared} {kd : SortKind} {S : Keyed → Prop} {rk : Keyed → Int}
end
end L2

namespace L2
open PySem PySem.Spec PyProof.Rows
/-! ## Two runs laid together in place -/
section
variable {prog : Program} {w : World} {A : Around} {E : Value → Shared → Prop} {s : Shared} {kd : SortKind} {S : Keyed → Prop} {rk : Keyed → Int}
end
end L2

namespace L2
open PySem PySem.Spec PyProof.Rows
/-! ## The stack of runs -/
section
variable {rk : Keyed → Int} {arr arr' : Array Keyed}
end
section
variable {prog : Program} {w : World} {A : Around} {E : Value → Shared → Prop} {s : Shared} {kd : SortKind} {S : Keyed → Prop} {rk : Keyed → Int}
end
end L2

namespace L2
open PySem PySem.Spec PyProof.Rows PySem.W
/-! ## list.sort and sorted over whole numbers, however many -/
section
variable {prog : Program} {w : World} {A : Around} {E : Value → Shared → Prop} {s : Shared}
end
section
variable {X : Cx}
end
end L2

namespace L2
open PySem PySem.Spec PyProof.Rows
/-! ## The rows of shapes behind each other -/
/-! ## A graph over some shapes -/
end L2

namespace L2
open PySem PySem.Spec PyProof.Rows
/-! ## A walk that never ends, place by place -/
/-- how many teeth are over the place p, of the combs laid below i -/
def ov (al : Nat → Nat → Bool) (i p : Nat) : Nat := if p < i then 1 else ind (al i (p - i))
section
variable {al ta : Nat → Nat → Bool}
/-- how many are laid below i -/
def cn (nm : Nat → Str) (i : Nat) : Nat := (laid nm i).length
end
theorem laid_at {nm : Nat → Str} {i n : Nat} (h : i < n) (hp : nm i ≠ Str.ofString "") : (laid nm n)[cn nm i]? = some i := by
  unfold cn laid
  have e : List.range n = List.range i ++ i :: (List.range (n - i - 1)).map fun k => i + 1 + k := by
    have h1 : List.range n = List.range ((i + 1) + (n - i - 1)) := by congr 1; omega
    rw [h1, List.range_add, List.range_succ, List.append_assoc]
    rfl
  rw [e, List.filter_append, List.filter_cons, if_pos (by simpa using hp), List.getElem?_append_right (Nat.le_refl _), Nat.sub_self]
  rfl
theorem laid_up (nm : Nat → Str) (n : Nat) : (laid nm n).Pairwise (· < ·) := List.Pairwise.sublist List.filter_sublist List.pairwise_lt_range
/-! ## The stretch laid again and again -/
end L2

namespace L2
open PySem PySem.Spec PyProof.Rows PySem.W
/-! ## Tuples of small whole numbers: a rank that tells their order -/
/-! ## The list sort over any rank -/
section
variable {prog : Program} {w : World} {A : Around} {E : Value → Shared → Prop} {s : Shared}
end
/-! ## The order that it asks of tuples of whole numbers -/
section
variable {prog : Program} {w : World} {A : Around} {E : Value → Shared → Prop} {s : Shared}
/-! ## what kind of keys they are -/
end
/-! ## sorted of a dict whose keys are tuples of whole numbers -/
section
variable {prog : Program} {w : World} {A : Around} {E : Value → Shared → Prop} {s : Shared} {d : Addr} {o : Obj} {es : Array DictEntry} {ep : Nat}
end
section
variable {X : Cx}
end
section
variable {X : Cx}
end
/-! ## Rows of shapes, however they are put in order -/
end L2

set_option maxHeartbeats 4000000
namespace L2
open PySem PySem.Spec PyProof.Rows PySem.W
/-! ## A list has no keys -/
theorem lk_list_keys : typeLookup (.type "list") "keys" = pure none := am_miss_of_fast (by decide +kernel)
theorem lk_list_getattr : typeLookup (.type "list") "__getattr__" = pure none := am_miss_of_fast (by decide +kernel)
theorem miss_list (l : Addr) (its : Array Value) (n : Nat) (u : Tok) :
    Meets (Builtin.«object.__getattribute__» ⟨[.ref l, .str "keys" u], []⟩) (fun A R s => s.heap.get? l = some { cls := .type "list", dict := none, data := .seq its n, slots := #[] } ∧ raisesAttr (.ref l) "keys" A R s) :=
  Meets.of_wp fun prog w A R s hs => by
    obtain ⟨hp, g, d, tk, os⟩ := s
    obtain ⟨hl, hs⟩ := hs
    have hT : (⟨hp, g, d, tk, os⟩ : Shared).TypeIs (.ref l) "list" := ⟨_, hl, rfl⟩
    have hm := lk_list_keys
    unfold Builtin.«object.__getattribute__»
    repeat (any_goals (first | assumption | wp_step))
    exact wpAny_raiseAttrError hs.1 hs.2 (attrMsg_fits (by decide +kernel) (by decide))
section
variable {prog : Program} {w : World} {A : Around} {E : Value → Shared → Prop} {s : Shared}
theorem no_keys {l : Addr} {its : Array Value} {n : Nat} {Q : Option Value → Shared → Prop} (hl : s.heap.get? l = some { cls := .type "list", dict := none, data := .seq its n, slots := #[] }) (hA : A.handled = none)
    (h : ∀ h' tk, (∀ b o, s.heap.get? b = some o → h'.get? b = some o) → Q none { s with heap := h', toks := tk }) : wpAny (model prog w) A (getAttr? (.ref l) "keys") Q E s := by
  obtain ⟨hp, g, d, tk, os⟩ := s
  have hT : ∀ tk' : Nat, (⟨hp, g, d, tk', os⟩ : Shared).TypeIs (.ref l) "list" := fun _ => ⟨_, hl, rfl⟩
  have f1 := sub_AttributeError
  have f3 := PySem.F.slot_list_getattribute.lookup
  have f4 := PySem.F.slot_list_getattribute.bind (.ref l)
  have f5 := lk_list_getattr
  unfold getAttr? getAttrBy? getAttrBy
  repeat (any_goals (first | assumption | ((with_reducible show wpAny _ _ (call (Value.builtin "list.__getattribute__") _ _) _ _ _); refine call_meets PySem.F.slot_list_getattribute (hT _) PySem.F.entry_list_ga (PySem.F.args_list_getattribute_2 _ _) (miss_list l its n _) ⟨hl, hA, fun h' tk' e hx => ?_⟩) | wp_step))
  obtain ⟨t', u', he⟩ := hx.there
  show wpAny _ _ (getattributeRaised _ _ _ _ _ _ _) _ _ _
  unfold getattributeRaised
  repeat (any_goals (first | assumption | wp_step))
  exact h _ _ hx.keeps
end
/-! ## dict of a list of pairs -/
theorem entry_upd : entryFor table "dict.update.loop" = some Builtin.«dict.update.loop» := entryFor_of_tree (by kernel_rfl)
theorem plain_upd : plainId "dict.update.loop" = true := by decide +kernel
def storeAll (kvs : List (Key × Value)) : List (Key × Value) := kvs.foldl (fun m p => stored m p.1 p.2) []
theorem storeAll_snoc (kvs : List (Key × Value)) (p : Key × Value) : storeAll (kvs ++ [p]) = stored (storeAll kvs) p.1 p.2 := by
  unfold storeAll
  rw [List.foldl_append]
  rfl
theorem stored_le (m : List (Key × Value)) (k : Key) (v : Value) : (stored m k v).length ≤ m.length + 1 := by
  unfold stored
  split
  · rw [List.length_map]; omega
  · rw [List.length_append]; simp
theorem storeAll_le (kvs : List (Key × Value)) : (storeAll kvs).length ≤ kvs.length := by
  have : ∀ (kvs m : List (Key × Value)), (kvs.foldl (fun m p => stored m p.1 p.2) m).length ≤ m.length + kvs.length := by
    intro kvs
    induction kvs with
    | nil => intro m; simp
    | cons p kvs ih =>
      intro m
      have h1 := ih (stored m p.1 p.2)
      have h2 := stored_le m p.1 p.2
      rw [List.foldl_cons, List.length_cons]
      omega
  unfold storeAll
  simpa using this kvs []
section
variable {prog : Program} {w : World} {A : Around} {E : Value → Shared → Prop} {s : Shared}
def PairAt (prog : Program) (w : World) (h : Heap) (item : Value) (p : Key × Value) : Prop := ∃ q o key n, item = .ref q ∧ h.get? q = some o ∧ o.cls = .type "tuple" ∧ o.data = .seq #[key, p.2] n ∧ (mixKind prog w).is p.1 key = true
theorem pairAt_keep {h h' : Heap} {item : Value} {p : Key × Value} {d I : Addr} (x : PairAt prog w h item p) (hd : ∀ o, h.get? d = some o → o.cls ≠ .type "tuple") (hI : ∀ o, h.get? I = some o → o.cls ≠ .type "tuple") (k : ∀ b o, b ≠ d → b ≠ I → h.get? b = some o → h'.get? b = some o) : PairAt prog w h' item p := by
  obtain ⟨q, o, key, n, e, ho, hc, r⟩ := x
  exact ⟨q, o, key, n, e, k q o (fun z => hd o (by rw [← z]; exact ho) hc) (fun z => hI o (by rw [← z]; exact ho) hc) ho, hc, r⟩
theorem upd_loop {R : Result → Shared → Prop} {l I d : Addr} {items : Array Value} {kv : List (Key × Value)} (res : Value) (hh : A.in1.handled = none) (hlI : l ≠ I) (hld : l ≠ d) (hdI : d ≠ I) (hn : kv.length = items.size) (hsz : items.size ≤ sizeLine) :
    ∀ (k i : Nat) (s : Shared), items.size - i = k → i ≤ items.size → s.heap.IsListIter I l i → s.heap.IsList l items → s.heap.DictOf (mixKind prog w) d (storeAll (kv.take i)) → (∀ (j : Nat) item p, items[j]? = some item → kv[j]? = some p → PairAt prog w s.heap item p) →
      (∀ h' tk, (∀ b o, b ≠ d → b ≠ I → s.heap.get? b = some o → h'.get? b = some o) → h'.DictOf (mixKind prog w) d (storeAll kv) → R (.ok (.ret res)) { s with heap := h', toks := tk }) →
      codeAny (model prog w) A (.builtin "dict.update.loop" ⟨[.ref d, .ref I, rawInt (i : Int), res], []⟩) R s := by
  intro k
  induction k with
  | zero =>
    intro i s hk hi st hl hd hp hR
    have hin : i = items.size := by omega
    refine codeAny_builtin entry_upd ?_
    rw [Around.under_plainId plain_upd _]
    show wpAny _ A.in1 (pyNext (.ref I) >>= _) _ _ s
    refine wpAny_bind (wpAny_pyNext_list_end hh st hl (by simp [hin]) fun h' eb => ?_)
    dsimp only
    show wpAny _ A.in1 (Builtin.Dict.addKeywords d [] >>= _) _ _ _
    refine wpAny_bind (wpAny_pure ?_)
    refine wpAny_pure (hR h' s.toks (fun b o _ hb e => eb b o hb e) ?_)
    rw [hin, ← hn, List.take_length] at hd
    exact hd.extBut eb hdI
  | succ k ih =>
    intro i s hk hi st hl hd hp hR
    have hlt : i < items.size := by omega
    obtain ⟨p, hkp⟩ : ∃ p, kv[i]? = some p := ⟨kv[i]'(by omega), by simp⟩
    have hit : items[i]? = some items[i] := by simp [hlt]
    refine codeAny_builtin entry_upd ?_
    rw [Around.under_plainId plain_upd _]
    show wpAny _ A.in1 (pyNext (.ref I) >>= _) _ _ s
    refine wpAny_bind (wpAny_pyNext_list_item st hl hit fun h1 st1 sb1 => ?_)
    dsimp only
    have kI : ∀ o, s.heap.get? I = some o → o.cls ≠ .type "tuple" := fun o e => by
      obtain ⟨o', e', c', _⟩ := st
      rw [e] at e'
      cases e'
      rw [c']
      decide
    have kd : ∀ o, s.heap.get? d = some o → o.cls ≠ .type "tuple" := fun o e => by
      obtain ⟨o', _, _, e', c', _⟩ := hd
      rw [e] at e'
      cases e'
      rw [c'.1]
      decide
    have k1 : ∀ b o, b ≠ d → b ≠ I → s.heap.get? b = some o → h1.get? b = some o := fun b o _ hb e => (sb1.2 b hb).trans e
    have hd1 := hd.sameBut sb1 hdI
    have hl1 : h1.IsList l items := hl.extBut sb1.extBut hlI
    obtain ⟨q, o, key, n, eit, ho, hc, hdat, hkey⟩ := pairAt_keep (hp i _ p hit hkp) kd kI k1
    rw [eit]
    refine wpAny_bind (wpAny_holding (wpAny_bind ?_))
    refine wpAny_tryCatch ?_
    unfold Builtin.Dict.pairItems
    refine wpAny_bind (wpAny_typeOf (s := { s with heap := h1 }) (show Shared.TypeIs { s with heap := h1 } (.ref q) "tuple" from ⟨o, ho, hc⟩) ?_)
    rw [if_pos (by decide)]
    refine wpAny_bind (wpAny_seqItems (s := { s with heap := h1 }) ho hdat (wpAny_pure ?_))
    refine wpAny_holding ?_
    refine wpAny_dictSet_pairs (s := { s with heap := h1 }) hkey hd1 (fun h2 hd2 sb2 => ?_) (by have := storeAll_le (kv.take i); rw [List.length_take] at this; omega)
    refine wpAny_pure ⟨plainId_quiet plain_upd _, ?_⟩
    have hI2 : h2.IsListIter I l (i + 1) := st1.extBut sb2.extBut (Ne.symm hdI)
    have k2 : ∀ b o, b ≠ d → b ≠ I → s.heap.get? b = some o → h2.get? b = some o := fun b o hb hb' e => (sb2.2 b hb).trans (k1 b o hb hb' e)
    refine ih (i + 1) _ (by omega) hlt hI2 (hl1.extBut sb2.extBut hld) ?_ (fun j item p' e1 e2 => pairAt_keep (hp j item p' e1 e2) kd kI k2) fun h' tk hk' hd' => ?_
    · rw [take_snoc hkp, storeAll_snoc]
      exact hd2
    · exact hR h' tk (fun b o hb hb' e => hk' b o hb hb' (k2 b o hb hb' e)) hd'
end
section
variable {prog : Program} {w : World} {A : Around} {E : Value → Shared → Prop} {s : Shared}
theorem dict_pairs {Q : Value → Shared → Prop} {l : Addr} {items : Array Value} {n : Nat} {kv : List (Key × Value)} (hh : A.handled = none) (hl : s.heap.get? l = some { cls := .type "list", dict := none, data := .seq items n, slots := #[] }) (hn : kv.length = items.size) (hsz : items.size ≤ sizeLine)
    (hp : ∀ (j : Nat) item p, items[j]? = some item → kv[j]? = some p → PairAt prog w s.heap item p)
    (h : ∀ h' tk, (∀ b o, s.heap.get? b = some o → h'.get? b = some o) → h'.DictOf (mixKind prog w) s.heap.objs.size (storeAll kv) → Q (.ref s.heap.objs.size) { s with heap := h', toks := tk }) :
    wpAny (model prog w) A (call (.type "dict") [.ref l]) Q E s := by
  refine callType_codes (Q₁ := fun obj s₁ => obj = .ref s.heap.objs.size ∧ s₁ = { s with heap := s.heap.push { cls := .type "dict", data := .dict #[] } }) F.kt_called_dict (F.kt_typeCall_dict_1 _) F.entry_dict_init (kt_code_dict_new _ ⟨rfl, rfl⟩) fun obj s₁ hq => ?_
  obtain ⟨rfl, rfl⟩ := hq
  have hnw : (s.heap.push { cls := .type "dict", data := .dict #[] }).get? s.heap.objs.size = some { cls := .type "dict", data := .dict #[] } := Heap.get?_push_size _ rfl
  have hl' : (s.heap.push { cls := .type "dict", data := .dict #[] }).get? l = some { cls := .type "list", dict := none, data := .seq items n, slots := #[] } := Heap.get?_push_of_some _ hl
  have hT : ({ s with heap := s.heap.push { cls := .type "dict", data := .dict #[] } } : Shared).TypeIs (.ref l) "list" := ⟨_, hl', rfl⟩
  have hTn : ({ s with heap := s.heap.push { cls := .type "dict", data := .dict #[] } } : Shared).TypeIs (.ref s.heap.objs.size) "dict" := ⟨_, hnw, rfl⟩
  have hld : l ≠ s.heap.objs.size := Nat.ne_of_lt (Heap.lt_size hl)
  refine ⟨hTn, F.args_dict_init_2 _ _, ?_⟩
  unfold Builtin.«dict.__init__»; refine wpAny_bind ?_
  unfold Builtin.Dict.selfAndRest; refine wpAny_bind (wpAny_notOrdered_dict hTn (show wpAny _ _ (pure (s.heap.objs.size, [Value.ref l])) _ _ _ from wpAny_pure (show wpAny _ _ (Builtin.Dict.updateFrom "dict.__init__" s.heap.objs.size (.ref l) [] .none) _ _ _ from ?_)))
  unfold Builtin.Dict.updateFrom; refine wpAny_bind (wpAny_typeOf hT ?_)
  rw [if_pos (by decide)]
  refine wpAny_bind (no_keys hl' hh fun h1 tk1 k1 => ?_)
  rw [if_pos (show (none : Option Value).isNone = true from rfl)]
  refine wpAny_bind (wpAny_rule ?_)
  have hl1 : h1.IsList l items := ⟨_, k1 _ _ hl', rfl, n, rfl⟩
  refine wpAny_bind (wpAny_pyIter_list (s := { s with heap := h1, toks := tk1 }) hl1 ?_)
  have hd1 : h1.get? s.heap.objs.size = some { cls := .type "dict", data := .dict #[] } := k1 _ _ hnw
  have hlt := Heap.lt_size hd1
  have hlt2 := Heap.lt_size (k1 _ _ hl')
  have kp : ∀ b o, s.heap.get? b = some o → h1.get? b = some o := fun b o e => k1 _ _ (Heap.get?_push_of_some _ e)
  refine wpAny_pure ⟨plainId_quiet plain_upd _, ?_⟩
  refine upd_loop (A := A.in1) (items := items) (kv := kv) .none (show A.in1.in1.handled = none from hh) (Nat.ne_of_lt hlt2) hld (Nat.ne_of_lt hlt) hn hsz items.size 0 { s with heap := h1.push { cls := .type "list_iterator", data := .fields #[.ref l, .int 0 0] }, toks := tk1 } (by omega) (Nat.zero_le _) ⟨_, Heap.get?_push_size _ rfl, rfl, rfl⟩ (hl1.push _) ?_ (fun j item p e1 e2 => ?_) fun h' tk hk hd => show _ ∧ _ from ⟨rfl, h h' tk (fun b o e => ?_) hd⟩
  · exact Heap.DictOf.push ⟨_, #[], 0, hd1, ⟨rfl, rfl, rfl⟩, rfl, fun _ he => by simp at he, Pairs.nil, List.nodup_nil⟩ _
  · obtain ⟨q, o, key, m, e, ho, r⟩ := hp j item p e1 e2
    exact ⟨q, o, key, m, e, Heap.get?_push_of_some _ (kp _ _ ho), r⟩
  · have lt := Heap.lt_size e
    exact hk b o (Nat.ne_of_lt lt) (Nat.ne_of_lt (Nat.lt_trans lt hlt)) (Heap.get?_push_of_some _ (kp _ _ e))
end
section
variable {X : Cx}
/-- dict of a list of pairs -/
theorem call_dictP (hc : X.calm = true) : CallR X (.type "dict") (fun xs H Q => ∃ (a : Addr) (ws : List V) (ps : List (Key × V)), xs = [V.ref a] ∧ H a = some (.lst ws) ∧ Paired (fun (p : Key × V) (v : V) => ∃ q, v = .ref q ∧ H q = some (.tup [kV p.1, p.2])) ps ws ∧ ∀ d, H d = none → Q (.ref d) (upd H d (.dK (ps.foldl (fun m p => putK m p.1 p.2) [])))) := by
  intro pins s σ H xs us Q I r h
  obtain ⟨a, ws, ps, rfl, ha, pr, q⟩ := h
  obtain ⟨u, rfl, ru⟩ := vals1 r
  cases ru
  obtain ⟨z, its, n, rv, hl, e⟩ := I.lstM ha
  have hlp : ps.length = ws.length := Paired.length pr
  -- the pairs as values
  have hx : ∃ kv : List (Key × Value), KV ps kv ∧ ∀ (j : Nat) item p, its.toArray[j]? = some item → kv[j]? = some p → PairAt X.prog X.w s.heap item p := by
    have : ∀ {ps : List (Key × V)} {ws : List V} {its : List Value}, Paired (fun (p : Key × V) (v : V) => ∃ q, v = .ref q ∧ H q = some (.tup [kV p.1, p.2])) ps ws → Vals ws its → ∃ kv : List (Key × Value), KV ps kv ∧ ∀ (j : Nat) item p, its[j]? = some item → kv[j]? = some p → PairAt X.prog X.w s.heap item p := by
      intro ps ws its pr
      induction pr generalizing its with
      | nil =>
        intro rv
        exact ⟨[], .nil, fun j item p e => by cases rv; simp at e⟩
      | @cons p v ps ws hh hr ih =>
        intro rv
        obtain ⟨qa, rfl, hq⟩ := hh
        cases rv with
        | cons ru rr =>
          cases ru
          obtain ⟨kv, k1, k2⟩ := ih rr
          obtain ⟨_, it2, rv2, o, ho, hco, m, hdo⟩ := (show ObjOk X.prog X.w H s.heap qa (.tup [kV p.1, p.2]) from I.hok _ _ hq)
          obtain ⟨w1, w2, rfl, r1, r2⟩ := rv2.two
          refine ⟨(p.1, w2) :: kv, .cons ⟨rfl, r2⟩ k1, fun j item p' e1 e2 => ?_⟩
          cases j with
          | zero =>
            simp at e1 e2
            subst e1 e2
            exact ⟨qa, o, w1, m, rfl, ho, hco, hdo, kV_is r1⟩
          | succ j => exact k2 j item p' (by simpa using e1) (by simpa using e2)
    obtain ⟨kv, k1, k2⟩ := this pr rv
    exact ⟨kv, k1, fun j item p e1 e2 => k2 j item p (by simpa using e1) e2⟩
  obtain ⟨kv, k1, k2⟩ := hx
  have hkl : kv.length = its.length := by rw [← k1.length, hlp, ← hl]
  refine dict_pairs (I.ok.hd hc) e (by rw [List.size_toArray]; exact hkl) (by rw [List.size_toArray]; omega) k2 fun h' tk hk hd => ?_
  have rel : KV (ps.foldl (fun m p => putK m p.1 p.2) []) (storeAll kv) := by
    have : ∀ {ps : List (Key × V)} {kv : List (Key × Value)}, KV ps kv → ∀ {m : List (Key × V)} {mv : List (Key × Value)}, KV m mv → KV (ps.foldl (fun m p => putK m p.1 p.2) m) (kv.foldl (fun m p => stored m p.1 p.2) mv) := by
      intro ps kv z
      induction z with
      | nil => exact fun h => h
      | @cons p v ps kv hh hr ih =>
        intro m mv hm
        obtain ⟨h1, h2⟩ := hh
        rw [List.foldl_cons, List.foldl_cons, ← h1]
        exact ih (hm.put p.1 h2)
    exact this k1 .nil
  have hz : (ps.foldl (fun m p => putK m p.1 p.2) []).length ≤ sizeLine := by
    rw [rel.length]
    have := storeAll_le kv
    omega
  refine ⟨.ref s.heap.objs.size, _, I.laid (a := s.heap.objs.size) (o := .dK (ps.foldl (fun m p => putK m p.1 p.2) [])) (h' := h') (t' := tk) hk (Nat.le_refl _) (show ObjOk X.prog X.w _ _ _ (.dK _) from ⟨hz, beq_eq_false_iff_ne.mpr (Ne.symm (Nat.ne_of_lt I.big)), _, rel, hd⟩), rfl, q _ (I.hok.fresh (Nat.le_refl _))⟩
end
end L2

namespace L2
open PySem PySem.Spec PyProof.Rows
/-! ## enumerate of a list -/
section
variable {X : Cx} {pins : List (Addr × Obj)} {σ : St} {H : Hp} {s : Shared} {h' : Heap}
/-- the records at fp have turned -/
theorem Inv.turnedL {t' : Nat} {fp : List Addr} (I : Inv X pins σ H s) (k : ∀ b o, b ∉ fp → s.heap.get? b = some o → h'.get? b = some o) (hf : ∀ b ∈ fp, FpOk X pins H b) : Inv X pins σ H { s with heap := h', toks := t' } := by
  have nit : ∀ b u, H b = some u → b ∉ fp := fun b u e z => by rw [(hf b z).1] at e; cases e
  have hL : X.env.locals ∉ fp := fun z => (hf _ z).2.1 rfl
  refine I.step (g' := s.gens) (d' := s.drawn) (ch := fp) (fun b hb => ?_) (fun b o _ _ hc e _ => k b o hc e) (fun b o _ _ hc e _ => ⟨o.slots, k b o hc e⟩) (fun _ _ _ _ n => n)
    (fun b o hc e => ⟨o, k b o hc e⟩) (fun _ _ e => e) (fun _ _ _ e => e) (fun b ps e => ⟨#[], by rw [e]; simp⟩) (fun m hm => ?_) (fun b u e => ?_) I.bare
  · obtain ⟨f0, f1, f2, f3, f4, f5⟩ := hf b hb
    exact ⟨f3, f1, f4, f5⟩
  · obtain ⟨o, es, ep, ho, r⟩ := hm
    exact ⟨o, es, ep, k _ o hL ho, r⟩
  · refine (I.hok b u e).stay (fun c v hc q => k c v ?_ q) (fun _ q => q) fun _ _ q => q
    rcases hc with z | z
    · rw [z]; exact nit b u e
    · exact nit c _ z
end
/-- 0, x0; 1, x1; ..: at each turn a new tuple -/
def Ite (K : PySem.W.Frag) (a : Addr) : It :=
  ⟨fun i H => ∃ xs x, SqL K H a xs ∧ xs[i]? = some x, fun i H x H' => ∃ q y, x = .ref q ∧ H q = none ∧ H' = upd H q (.tup [.int (i : Nat), y]) ∧ ∀ xs, SqL K H a xs → xs[i]? = some y, fun i H => ∃ xs, SqL K H a xs ∧ xs.length ≤ i⟩
theorem turn_enum {P : Program} {w : World} {K : PySem.W.Frag} {es : List Expr} {x1} {tp : Pos} (a e it : Addr) (hne : e ≠ it) : Turn P w K (.Tuple es x1 tp) (Ite K a) [e, it] e (fun i h => (∃ old, IsEnum h e it i old) ∧ h.IsListIter it a i) where
  mem := by simp
  obj := fun i h st b hb => by
    obtain ⟨⟨old, e1⟩, o2, e2, c2, d2⟩ := st
    have hb : b = e ∨ b = it := by simpa using hb
    rcases hb with rfl | rfl
    · exact ⟨_, e1, fun v z => by cases z⟩
    · exact ⟨_, e2, fun v z => by rw [d2] at z; cases z⟩
  keep := fun i h h' st k => ⟨let ⟨old, e1⟩ := st.1; ⟨old, k e (by simp) _ e1⟩, st.2.at fun o e => k it (by simp) o e⟩
  item := by
    intro X hP hw hK hc i pins s σ H E I hf st hg
    subst hP hw hK
    obtain ⟨⟨old, he⟩, st⟩ := st
    obtain ⟨xs, x, hq, hx⟩ := hg
    obtain ⟨its, rv, p, hz⟩ := I.list hq
    obtain ⟨u, hu, ru⟩ := rv.get hx
    have lte := Heap.lt_size he
    have lti : it < s.heap.objs.size := by obtain ⟨o, e, _⟩ := st; exact Heap.lt_size e
    refine wpAny_pyNext_enum_item he st p.isList (x := u) (by simpa using hu) hne fun h1 he1 st1 ht1 hz1 k1 => ?_
    refine ⟨.ref s.heap.objs.size, rfl, wpAny_letOwnedTupleGo_enum (s := { s with heap := h1, toks := s.toks + 1 }) he1 fun h2 he2 sb2 => ?_⟩
    have st2 : h2.IsListIter it a (i + 1) := st1.extBut sb2.extBut (Ne.symm hne)
    have ht2 : h2.get? s.heap.objs.size = some { cls := .type "tuple", data := .seq #[.int i s.toks, u] } := (sb2.2 _ (Nat.ne_of_gt lte)).trans ht1
    obtain ⟨oi, ei, ci, di⟩ := id st2
    obtain ⟨oi0, ei0, ci0, di0⟩ := id st
    -- the heap with both turned, the tuple not yet laid
    let oe : Obj := { cls := .type "enumerate", dict := none, data := .fields #[.none, .bool false, .ref it, rawInt ((i : Int) + 1), .none, u], slots := #[] }
    let hA : Heap := (s.heap.update e fun _ => oe).update it fun _ => oi
    have g1 : (s.heap.update e fun _ => oe).get? e = some oe := Heap.get?_update_self _ he rfl
    have g2 : (s.heap.update e fun _ => oe).get? it = some oi0 := by rw [Heap.get?_update_ne _ _ _ _ (Ne.symm hne)]; exact ei0
    have fr : oi.isFreed = false := Obj.isFreed_of_fields di
    have g3 : hA.get? it = some oi := Heap.get?_update_self _ g2 fr
    have g4 : hA.get? e = some oe := by show ((s.heap.update e fun _ => oe).update it fun _ => oi).get? e = _; rw [Heap.get?_update_ne _ _ _ _ hne]; exact g1
    have g5 : ∀ b, b ≠ e → b ≠ it → hA.get? b = s.heap.get? b := fun b hb hb' => by
      show ((s.heap.update e fun _ => oe).update it fun _ => oi).get? b = _
      rw [Heap.get?_update_ne _ _ _ _ hb', Heap.get?_update_ne _ _ _ _ hb]
    have zA : hA.objs.size = s.heap.objs.size := (Heap.size_update ..).trans (Heap.size_update ..)
    have I1 : Inv X pins σ H { s with heap := hA, toks := s.toks + 1 } := I.turnedL (t' := s.toks + 1) (fun b o hb e' => by
      have : b ≠ e ∧ b ≠ it := by simpa using hb
      rw [g5 b this.1 this.2]; exact e') hf
    have hq0 : H s.heap.objs.size = none := I.hok.fresh (Nat.le_refl _)
    have I2 : Inv X pins σ (upd H s.heap.objs.size (.tup [.int (i : Nat), x])) { s with heap := h2, toks := s.toks + 1 } := by
      have := Inv.laid (o := .tup [.int (i : Nat), x]) (a := s.heap.objs.size) (h' := h2) (t' := s.toks + 1) I1 (fun b o e' => ?_) (by show hA.objs.size ≤ _; rw [zA]; exact Nat.le_refl _) (show ObjOk X.prog X.w _ _ _ (.tup [.int (i : Nat), x]) from ⟨show 2 ≤ sizeLine from by decide, [.int i s.toks, u], .cons ⟨_, rfl⟩ (.cons ru .nil), _, ht2, rfl, _, rfl⟩)
      · exact this
      · by_cases b1 : b = e
        · subst b1
          rw [g4] at e'
          cases e'
          exact he2
        · by_cases b2 : b = it
          · subst b2
            rw [g3] at e'
            cases e'
            exact ei
          · rw [g5 b b1 b2] at e'
            exact (sb2.2 b b1).trans (k1 b o b1 b2 e')
    refine ⟨.ref s.heap.objs.size, _, I2, rfl, ⟨_, x, rfl, hq0, rfl, fun ys hy => by rw [I.list_inj hy hq]; exact hx⟩, ⟨⟨u, by simpa using he2⟩, st2⟩, fun b hb => ?_⟩
    have hb : b = e ∨ b = it := by simpa using hb
    have hlt : b ≠ s.heap.objs.size := by
      rcases hb with rfl | rfl
      · exact Nat.ne_of_lt lte
      · exact Nat.ne_of_lt lti
    rw [upd_ne hlt]
    exact (hf b (by simpa using hb)).1
  done := by
    intro X hP hw hK hc i pins s σ H E I hf st hg
    subst hP hw hK
    obtain ⟨⟨old, he⟩, st⟩ := st
    obtain ⟨xs, hq, hx⟩ := hg
    obtain ⟨its, rv, p, hz⟩ := I.list hq
    have hl := rv.length
    obtain ⟨f0, f1, f2, f3, f4, f5⟩ := hf it (by simp)
    exact wpAny_pyNext_enum_end (I.ok.hd hc) he st p.isList (by simp; omega) fun h' eb => ⟨rfl, I.turned (t' := s.toks) (fun b o hb e => eb b o hb e) f0 f1 f3 f4 f5⟩
  self := fun _ _ _ _ _ st h => let ⟨_, e1⟩ := st.1; wpAny_pyIter_enum e1 h
def iEnum (K : PySem.W.Frag) (ta : TA) : TI := fun σ H R => ta σ H fun vs H1 => ∃ a, vs = [.ref a] ∧ (∃ xs, SqL K H1 a xs) ∧ R (Ite K a) H1
theorem boot_enum : bootBuiltins "enumerate" = some (.type "enumerate") := by decide +kernel
theorem pi_enum {X : Cx} {a : Expr} {ta : TA} {p pos : Pos} {es : List Expr} {x1} {tp : Pos} (hg : Gl X "enumerate") (hm : X.mg "enumerate" = none) (ha : PA X [a] ta) (hs : starEach [a] X.env = [(false, eval a X.env)] := by rfl) : PI X (.Tuple es x1 tp) (.Call (.Name "enumerate" p) [a] [] pos) (iEnum X.K ta) := by
  intro pins s σ H R I h
  refine Call_ (ld_blt I hg hm boot_enum (PyProof.Rows.callWith_type1 (thn (ha pos pins s σ H _ I h) fun us s1 ⟨vs, H1, I1, r1, q1⟩ => ?_) hs rfl))
  obtain ⟨a, e, ⟨xs, hq⟩, q⟩ := q1
  subst e
  obtain ⟨u, rfl, ru⟩ := vals1 r1
  cases ru
  obtain ⟨its, rv, pl, hz⟩ := I1.list hq
  refine call_enumerate_list pl.isList fun h' he st hz' k => ?_
  refine wpAny_pyIter_enum (s := { s1 with heap := h' }) he ?_
  have I2 : Inv X pins σ H1 { s1 with heap := h' } := I1.kept (t' := s1.toks) k
  refine ⟨_, [s1.heap.objs.size + 1, s1.heap.objs.size], _, _, H1, rfl, I2, turn_enum a _ _ (by show s1.heap.objs.size + 1 ≠ s1.heap.objs.size; omega), ⟨⟨_, he⟩, st⟩, fun b hb => ?_, q⟩
  have hb : b = s1.heap.objs.size + 1 ∨ b = s1.heap.objs.size := by simpa using hb
  have hle : s1.heap.objs.size ≤ b := by rcases hb with rfl | rfl; exact Nat.le_succ _; exact Nat.le_refl _
  exact I1.fpOk hle (I1.hok.fresh hle)
/-- a comprehension over enumerate(xs), taken apart -/
theorem comp_e2 {K : PySem.W.Frag} {a : Addr} {L : List V} {tf : TT} {te : TE} {D : Addr} {σ0 capv : St} {H1 : Hp} {Q : VK} (hσ : σ0 = none :: none :: capv) (ha : H1 a = some (.lst L)) (hL : L.length ≤ sizeLine) (hD : H1 D = none) (p : Nat → Bool) (Rel : Hp → Nat → V → Prop)
    (hm : ∀ H H' i v, Same H H' → Rel H i v → Rel H' i v) (hw : ∀ H i v l l', v ≠ .ref D → H D = some (.lst l) → Rel H i v → Rel (upd H D (.lst l')) i v)
    (ht : ∀ (i : Nat) x, L[i]? = some x → ∀ H R, Same H1 H → (∀ H', Same H H' → R (p i) H') → tf (some (.int (i : Nat)) :: some x :: capv) H R)
    (he : ∀ (i : Nat) x, L[i]? = some x → p i = true → ∀ H R, Same H1 H → H D ≠ none → (∀ H' v, Same H H' → v ≠ .ref D → Rel H' i v → R v H') → te (some (.int (i : Nat)) :: some x :: capv) H R)
    (hd : ∀ H ys, Same H1 H → H D = some (.lst ys) → Paired (fun i y => y ≠ .ref D ∧ Rel H i y) ((List.range L.length).filter p) ys → Q (.ref D) H) :
    CompW (Ite K a) D σ0 H1 (gTup K 2 (gCons (gName 0) (gCons (gName 1) gNil))) tf te Q := by
  subst hσ
  refine ⟨fun i m σ H => m = L.length - i ∧ i ≤ L.length ∧ (∃ o1 o2, σ = o1 :: o2 :: capv) ∧ Same H1 H ∧ ∃ xs, H D = some (.lst xs) ∧ Paired (fun i y => y ≠ .ref D ∧ Rel H i y) ((List.range i).filter p) xs, ⟨L.length, by simp, Nat.zero_le _, ⟨none, none, rfl⟩, Same.new hD, [], upd_same, .nil⟩, ?_⟩
  rintro i m σ H ⟨rfl, hi, ⟨o1, o2, rfl⟩, s, xs, e, hr⟩
  by_cases hlt : i < L.length
  · refine .inr ⟨⟨L, L[i], SqL.of (s _ _ ha), by simp [hlt]⟩, ?_⟩
    rintro x H2 ⟨q, y, rfl, hq, rfl, hy⟩
    have hy : L[i]? = some y := hy L (SqL.of (s _ _ ha))
    have sq : Same H (upd H q (.tup [.int (i : Nat), y])) := Same.new hq
    refine ⟨q, _, rfl, SqT.of upd_same, rfl, _, _, rfl, _, _, rfl, rfl, ?_⟩
    have e := sq _ _ e
    have hr : Paired (fun i y => y ≠ .ref D ∧ Rel (upd H q (.tup [.int (i : Nat), y])) i y) ((List.range i).filter p) xs → True := fun _ => trivial
    have hr := Paired.mapP ‹Paired (fun i y => y ≠ V.ref D ∧ Rel H i y) ((List.range i).filter p) xs› fun j z w => (⟨w.1, hm _ _ _ _ sq w.2⟩ : z ≠ V.ref D ∧ Rel (upd H q (.tup [.int (i : Nat), y])) j z)
    have s := s.trans sq
    generalize upd H q (.tup [.int (i : Nat), y]) = H3 at e hr s
    refine ht i y hy H3 _ s fun H' s' => ?_
    have hxl : xs.length ≤ i := by
      rw [← Paired.length hr]
      exact Nat.le_trans (List.length_filter_le _ _) (by rw [List.length_range]; omega)
    have efil : (List.range (i + 1)).filter p = (List.range i).filter p ++ if p i = true then [i] else [] := by
      rw [List.range_succ, List.filter_append]
      congr 1
      rw [List.filter_cons, List.filter_nil]
    cases hp : p i with
    | true =>
      rw [if_pos rfl]
      refine he i y hy hp H' _ (s.trans s') (by rw [s' _ _ e]; exact nofun) fun H4 v s2 hv rv => ?_
      have e2 := s2 _ _ (s' _ _ e)
      refine ⟨xs, e2, by omega, L.length - (i + 1), by omega, rfl, hlt, ⟨_, _, rfl⟩, ((s.trans s').trans s2).put hD, _, upd_same, ?_⟩
      rw [efil, if_pos hp]
      exact Paired.snoc (Paired.mapP hr fun j y z => ⟨z.1, hw _ _ _ _ _ z.1 e2 (hm _ _ _ _ (s'.trans s2) z.2)⟩) ⟨hv, hw _ _ _ _ _ hv e2 rv⟩
    | false =>
      rw [if_neg Bool.false_ne_true]
      refine ⟨L.length - (i + 1), by omega, rfl, hlt, ⟨_, _, rfl⟩, s.trans s', xs, s' _ _ e, ?_⟩
      rw [efil, if_neg (by rw [hp]; exact Bool.false_ne_true), List.append_nil]
      exact Paired.mapP hr fun j y z => ⟨z.1, hm _ _ _ _ s' z.2⟩
  · have hie : i = L.length := by omega
    subst hie
    exact .inl ⟨⟨L, SqL.of (s _ _ ha), Nat.le_refl _⟩, hd H xs s e hr⟩
/-! ## The layings as a dict -/
theorem put_all {κ : Type} [DecidableEq κ] : ∀ (ps : List (κ × V)) (m : List (κ × V)), ((m ++ ps).map (·.1)).Nodup → ps.foldl (fun m p => putK m p.1 p.2) m = m ++ ps
  | [], m, _ => by simp
  | p :: ps, m, nd => by
    have hno : valV m p.1 = none := by
      rw [← Option.isNone_iff_eq_none, ← Bool.not_eq_false]
      intro z
      have h1 : (valV m p.1).isSome = true := by
        cases e : valV m p.1 with
        | none => rw [e] at z; cases z
        | some _ => rfl
      rw [← valV_any] at h1
      obtain ⟨kv, hkv, e⟩ := List.any_eq_true.mp h1
      rw [List.map_append, List.nodup_append] at nd
      exact nd.2.2 kv.1 (List.mem_map.mpr ⟨kv, hkv, rfl⟩) p.1 (by simp) (of_decide_eq_true e)
    rw [List.foldl_cons, putK_new _ hno, put_all ps (m ++ [(p.1, p.2)]) (by simpa using nd)]
    simp
def layK (nm : Nat → Str) (n : Nat) : List (Key × V) := (laid nm n).map fun (j : Nat) => ((Sum.inl (j : Int) : Key), V.str (nm j))
theorem layK_all (nm : Nat → Str) (n : Nat) : (layK nm n).foldl (fun m p => putK m p.1 p.2) [] = layK nm n := by
  refine put_all _ [] ?_
  rw [List.nil_append]
  unfold layK
  rw [List.map_map, List.nodup_iff_pairwise_ne, List.pairwise_map]
  exact (laid_up nm n).imp fun {a b} h z => by
    have z : (Sum.inl (a : Int) : Key) = Sum.inl (b : Int) := z
    injection z with z
    omega
theorem layK_val (nm : Nat → Str) (n : Nat) (x : Int) : valV (layK nm n) (Sum.inl x) = if 0 ≤ x ∧ x.toNat < n ∧ nm x.toNat ≠ Str.ofString "" then some (.str (nm x.toNat)) else none := by
  unfold valV layK
  rw [List.find?_map]
  by_cases h : 0 ≤ x ∧ x.toNat < n ∧ nm x.toNat ≠ Str.ofString ""
  · rw [if_pos h]
    have hm : x.toNat ∈ laid nm n := List.mem_filter.mpr ⟨List.mem_range.mpr h.2.1, decide_eq_true h.2.2⟩
    cases hf : (laid nm n).find? ((fun kv : Key × V => decide (kv.1 = Sum.inl x)) ∘ fun (j : Nat) => ((Sum.inl (j : Int) : Key), V.str (nm j))) with
    | none =>
      have := List.find?_eq_none.mp hf _ hm
      exact absurd (decide_eq_true (by show (Sum.inl ((x.toNat : Nat) : Int) : Key) = Sum.inl x; rw [show ((x.toNat : Nat) : Int) = x by omega])) this
    | some j =>
      have := List.find?_some hf
      have e : (Sum.inl (j : Int) : Key) = Sum.inl x := of_decide_eq_true this
      injection e with e
      rw [Option.map_some, Option.map_some]
      show some (V.str (nm j)) = _
      rw [show j = x.toNat by omega]
  · rw [if_neg h]
    cases hf : (laid nm n).find? ((fun kv : Key × V => decide (kv.1 = Sum.inl x)) ∘ fun (j : Nat) => ((Sum.inl (j : Int) : Key), V.str (nm j))) with
    | none => rfl
    | some j =>
      exfalso
      have := List.find?_some hf
      have e : (Sum.inl (j : Int) : Key) = Sum.inl x := of_decide_eq_true this
      injection e with e
      obtain ⟨h1, h2⟩ := List.mem_filter.mp (List.mem_of_find?_eq_some hf)
      exact h ⟨by omega, by rw [show x.toNat = j by omega]; exact List.mem_range.mp h1, by rw [show x.toNat = j by omega]; exact of_decide_eq_true h2⟩
theorem layK_pairs {H : Hp} {ws : List V} {nm : Nat → Str} {n : Nat} (r : LaysR H ws nm n) : Paired (fun (p : Key × V) (v : V) => ∃ q, v = .ref q ∧ H q = some (.tup [kV p.1, p.2])) (layK nm n) ws := by
  have : ∀ {l : List Nat} {ws : List V}, Paired (fun (j : Nat) (v : V) => ∃ q, v = .ref q ∧ H q = some (.tup [.int (j : Int), .str (nm j)])) l ws → Paired (fun (p : Key × V) (v : V) => ∃ q, v = .ref q ∧ H q = some (.tup [kV p.1, p.2])) (l.map fun (j : Nat) => ((Sum.inl (j : Int) : Key), V.str (nm j))) ws := by
    intro l ws z
    induction z with
    | nil => exact .nil
    | cons h _ ih => exact .cons h ih
  exact this r
end L2

namespace L2
open PySem PySem.Spec PyProof.Rows
/-! ## Just one tooth over each place -/
theorem sum_ind {P : Nat → Bool} : ∀ {n : Nat}, sumR n (fun t => ind (P t)) = 1 → ∃ t, t < n ∧ P t = true ∧ ∀ u, u < n → P u = true → u = t
  | 0, h => by simp [sumR_zero] at h
  | n + 1, h => by
    rw [sumR_succ] at h
    cases e : P n with
    | true =>
      rw [e] at h
      have h0 : sumR n (fun t => ind (P t)) = 0 := by simpa [ind] using h
      refine ⟨n, by omega, e, fun u hu pu => ?_⟩
      rcases Nat.lt_or_ge u n with z | z
      · exfalso
        have : ∀ m, u < m → 1 ≤ sumR m (fun t => ind (P t)) := by
          intro m
          induction m with
          | zero => intro z; omega
          | succ m ih =>
            intro z
            rw [sumR_succ]
            by_cases e2 : u = m
            · subst e2; rw [pu]; simp [ind]
            · have := ih (by omega); omega
        have := this n z
        omega
      · omega
    | false =>
      rw [e] at h
      obtain ⟨t, h1, h2, h3⟩ := sum_ind (P := P) (n := n) (by simpa [ind] using h)
      refine ⟨t, by omega, h2, fun u hu pu => ?_⟩
      rcases Nat.lt_or_ge u n with z | z
      · exact h3 u z pu
      · rw [show u = n by omega, e] at pu; cases pu
theorem home_iff {j t sp : Nat} {x : Int} (hsp : 1 ≤ sp) (hj : j < sp) : (j + t) % sp = (x % (sp : Int)).toNat ↔ j = ((x - (t : Int)) % (sp : Int)).toNat := by
  have p : (0 : Int) < (sp : Int) := by omega
  have m0 := Int.emod_nonneg x (show (sp : Int) ≠ 0 by omega)
  have n0 := Int.emod_nonneg (x - (t : Int)) (show (sp : Int) ≠ 0 by omega)
  have e1 : ((j + t) % sp = (x % (sp : Int)).toNat) ↔ (((j : Int) + (t : Int)) % (sp : Int) = x % (sp : Int)) := by
    rw [show (j : Int) + (t : Int) = ((j + t : Nat) : Int) by omega, ← Int.natCast_emod]
    omega
  have e2 : (j = ((x - (t : Int)) % (sp : Int)).toNat) ↔ ((j : Int) % (sp : Int) = (x - (t : Int)) % (sp : Int)) := by
    rw [← Int.natCast_emod, Nat.mod_eq_of_lt hj]
    omega
  rw [e1, e2, Int.emod_eq_emod_iff_emod_sub_eq_zero, Int.emod_eq_emod_iff_emod_sub_eq_zero]
  rw [show (j : Int) + (t : Int) - x = (j : Int) - (x - (t : Int)) by omega]
theorem Tile.sum8 {sp : Nat} {al ta : Nat → Nat → Bool} (T : Tile sp al ta) (x : Int) : sumR 8 (fun t => ind (ta ((x - (t : Int)) % (sp : Int)).toNat t)) = 1 := by
  have p : (0 : Int) < (sp : Int) := by have := T.pos; omega
  have m0 := Int.emod_nonneg x (show (sp : Int) ≠ 0 by omega)
  have m1 := Int.emod_lt_of_pos x p
  have h := T.under (r := (x % (sp : Int)).toNat) (by omega)
  rw [sumR_swap] at h
  rw [← h]
  refine sumR_congr fun t ht => ?_
  have n0 := Int.emod_nonneg (x - (t : Int)) (show (sp : Int) ≠ 0 by omega)
  have n1 := Int.emod_lt_of_pos (x - (t : Int)) p
  rw [sumR_one (j0 := ((x - (t : Int)) % (sp : Int)).toNat) (g := fun j => ind (ta j t)) (by omega)]
  intro j hj
  rw [decide_eq_true_eq]
  exact home_iff T.pos hj
/-- the tooth over a place of the line -/
theorem LineD.over {C : Combs} (g : GC C) (nd : (C.map (·.1)).Nodup) (ne : ∀ c ∈ C, c.1 ≠ Str.ofString "") {sp : Nat} {f : Nat → Nat} {nm : Nat → Str} (h : LineD C sp f nm) (x : Int) :
    ∃ t : Nat, t < 8 ∧ (t : Int) ∈ tkOf C (nm ((x - (t : Int)) % (sp : Int)).toNat) ∧ ∀ u : Nat, u < 8 → (u : Int) ∈ tkOf C (nm ((x - (u : Int)) % (sp : Int)).toNat) → u = t := by
  obtain ⟨t, h1, h2, h3⟩ := sum_ind ((h.tile g nd ne).sum8 x)
  exact ⟨t, h1, of_decide_eq_true h2, fun u hu hm => h3 u hu (decide_eq_true hm)⟩
theorem tk_ne {C : Combs} (ne : ∀ c ∈ C, c.1 ≠ Str.ofString "") {x : Str} {t : Int} (h : t ∈ tkOf C x) : x ≠ Str.ofString "" := fun z => by
  unfold tkOf at h
  rw [z, get_none.mpr fun z => by obtain ⟨c, hc, e⟩ := List.mem_map.mp z; exact ne c hc e] at h
  cases h
/-! ## A script's numbers are not endless -/
theorem bits_of_lay {ns : List Int} (h : PySem.W.WData.layableAll [.list (ns.map .int)] = true) : ∀ n ∈ ns, Builtin.Int.intBits n ≤ 2 ^ 20 := by
  have h1 : PySem.W.WData.layable (.list (ns.map .int)) = true := by simpa [PySem.W.WData.layableAll] using h
  have h2 : PySem.W.WData.weight (.list (ns.map .int)) ≤ 2 ^ 20 := by
    unfold PySem.W.WData.layable at h1
    rw [Bool.and_eq_true, decide_eq_true_eq] at h1
    exact h1.2
  have h3 : PySem.W.WData.weightAll (ns.map .int) ≤ 2 ^ 20 := by simpa [PySem.W.WData.weight] using h2
  have : ∀ (ns : List Int) (n : Int), n ∈ ns → Builtin.Int.intBits n ≤ PySem.W.WData.weightAll (ns.map .int) := by
    intro ns
    induction ns with
    | nil => intro n hn; cases hn
    | cons m ns ih =>
      intro n hn
      rw [List.map_cons, PySem.W.WData.weightAll]
      rcases List.mem_cons.mp hn with rfl | hn
      · have : Builtin.Int.intBits n = PySem.W.WData.weight (.int n) := by simp [PySem.W.WData.weight, Builtin.Int.intBits]
        omega
      · have := ih n hn
        omega
  exact fun n hn => Nat.le_trans (this ns n hn) h3
end L2
namespace Att
open PySem PySem.W PySem.Calls PyProof.Rows
theorem attach_callB {l : OpenLaw} {n : Nat} {q : Program} {loose : List Str} {XP : (Str → Option Value) → Heap → Prop} {YP : World → Heap → Prop} {d : DefRec}
    (hn : l.most = some n) (hdf : d.params.defaults = [])
    (call : ∀ (w : World) (s₀ s₁ : Shared) (mg mb : Str → Option Value) (fa : Addr) (o : Obj) (pm cd doc : Value) (a : Addr) (vs : List Value) (ns : List Int),
      Ground q loose [] XP w s₀ mg mb s₁.heap → YP w s₁.heap →
      s₁.heap.get? fa = some o → o.data = .func (docDef d.name d.params d.body d.scope pm cd doc) → s₁.heap.CodeRec cd d.name → mg d.name = some (.ref fa) →
      s₁.heap.get? a = some { cls := .type "list", data := .seq vs.toArray } → IntsAre vs ns → ns.length ≤ n → (∀ m ∈ ns, Builtin.Int.intBits m ≤ 2 ^ 20) → s₁.gens = #[] →
      codeAny (model l.prog w) callerA (.call (.ref fa) ⟨[.ref a], []⟩) (fun r s' => r = .ok (.ret (.bool true)) ∧ OldK s₁.heap s'.heap ∧ s'.os = s₁.os ∧ AllBare s'.gens) s₁) :
    WalkO q loose XP YP l.row.toRowW d [] (fun f vs => PySem.call f vs) := by
  intro w s₀ s₁ mg mb G Y fa o pm cd doc dV kV ho hd hcd hD hmg hg args vals as hpre hlay hrd hwl hlo
  obtain rfl : dV = .none := Dflts.none hD hdf
  obtain rfl : kV = .none := Dflts.noKw hD
  obtain ⟨a, vs, ns, rfl, rfl, hobj, hints, hlen⟩ := script_of hn hpre hwl
  refine enter_call (codeAny_mono (call w s₀ s₁ mg mb fa o pm cd doc a vs ns G Y ho (fd_plain hd) hcd hmg hobj hints hlen (L2.bits_of_lay hlay) hg) fun r s' hq => ?_)
  obtain ⟨rfl, h2, h3, h4⟩ := hq
  exact ⟨.inl ⟨.bool true, .bool true, [], rfl, fun _ => rfl, .bool true, post_true l _, fun _ => ⟨List.Pairwise.nil, fun _ hm => (nomatch hm)⟩⟩, h2, h3, h4⟩
end Att
namespace L2
open PySem PySem.Spec PyProof.Rows
theorem walk_ofB {l : PySem.W.OpenLaw} {n k : Nat} {q : Program} {loose : List Str} {XP : (Str → Option Value) → Heap → Prop} {YP : World → Heap → Prop} {d : DefRec} {K : Params → PySem.W.Frag} {CX : World → CXT} {sp : World → Sp} {x : Str}
    (hn : l.most = some n) (hn2 : n ≤ sizeLine) (hdf : d.params.defaults = []) (hr : Room k callerA)
    (hY : ∀ (w : World) (h : Heap), YP w h → (K w.params).In h)
    (F : ∀ (w : World) (mg : Str → Option Value) (fa : Addr) (h : Heap), (K w.params).In h → h.Ns mainGlobals mg → mg d.name = some (.ref fa) →
      ∃ fd : FuncData, (∀ (s : Shared) (u : Value), BindsTo s fd ⟨[u], []⟩ [(x, u)]) ∧
        ∀ base : Heap, (K w.params).In base → base.Ns mainGlobals mg → FnOk l.prog w (K w.params) mg base (CX w) k fa fd [x] (sp w))
    (hsp : ∀ (w : World) (H : Hp) (a : Addr) (ns : List Int), ns.length ≤ n → (∀ m ∈ ns, Builtin.Int.intBits m ≤ 2 ^ 20) → Only H → SqL (K w.params) H a (ns.map V.int) → sp w [.ref a] H (fun v _ => v = .bl true) fun _ _ _ => False)
    (hCX : ∀ (w : World) (H : Hp) (s : Shared) (e : Value) (s' : Shared), CX w [] H s (fun _ _ _ => False) e s' → False) :
    PySem.W.WalkO q loose XP YP l.row.toRowW d [] (fun f vs => PySem.call f vs) := by
  refine Att.attach_callB hn hdf fun w s₀ s₁ mg mb fa o pm cd doc a vs ns G Y ho hd hcd hmg hobj hints hlen hbits hg => ?_
  have KX := hY w _ Y
  obtain ⟨fd, hb, hF⟩ := F w mg fa _ KX G.T.g hmg
  exact law_call KX G.T.g G.T.b G.T.builtins G.T.nolimit hg hobj hints (Nat.le_trans hlen hn2) hr hF hb (fun H hO hS => hsp w H a ns hlen hbits hO hS) fun H e s' => hCX w H s₁ e s'
def spLawB (K : PySem.W.Frag) : Sp := fun vs H Q _ => ∃ (a : Addr) (ns : List Int), vs = [.ref a] ∧ SqL K H a (ns.map V.int) ∧ ns.length ≤ 63 ∧ (∀ m ∈ ns, Builtin.Int.intBits m ≤ 2 ^ 20) ∧ ∀ H', Q (.bl true) H'
section
variable {X : Cx}
/-- a product of numbers of any bounded size -/
theorem op_mulB : OpR X (binaryOp .Mult) (rI IntMulOk fun i j => .int (i * j)) := opI fun _ _ _ _ _ _ _ hc q => mul_int q hc
/-! ## a tuple in a list of tuples -/
def rInD (K : PySem.W.Frag) (neg : Bool) : R2 := fun x y H Q => ∃ d es, VD K H x d ∧ VD K H y (.list es) ∧ d.canLay0 = true ∧ PyData.canLayAll0 es = true ∧ d.depth ≤ 50 ∧ Q (.bl (if neg then !es.any (fun e => PyData.eqv e d) else es.any fun e => PyData.eqv e d)) H
theorem op_notInD (hu : X.A.units + 64 < cLine) : OpR X (compareOp .NotIn) (rInD X.K true) := by
  intro pins s σ H x y v u Q I rx ry h
  obtain ⟨d, es, hd, he, c1, c2, dp, q⟩ := h
  obtain ⟨a1, r1⟩ := hd.reads I rx
  obtain ⟨a2, r2⟩ := he.reads I ry
  exact SeqAt.notIn_list_reads r2 r1 c2 c1 (by have := Nat.min_le_right (PyData.depthAll es) d.depth; omega) ⟨.bl _, H, I, rfl, q⟩
end
theorem bits_at {ns : List Int} (h : ∀ m ∈ ns, Builtin.Int.intBits m ≤ 2 ^ 20) (i : Nat) : Builtin.Int.intBits (ns.getD i 0) ≤ 2 ^ 20 := by
  rw [List.getD_eq_getElem?_getD]
  cases e : ns[i]? with
  | none => exact (by decide : Builtin.Int.intBits 0 ≤ 2 ^ 20)
  | some x => exact h x (List.mem_of_getElem? e)
end L2

namespace L2
open PySem PySem.Spec PyProof.Rows
/-! ## Just one tooth over each place of the strip -/
end L2

set_option maxHeartbeats 4000000
namespace K30
open PySem L2 PyProof.Rows
def top (i : Nat) : Stmt := PySem.Challenge.pw_combstrip_k30_whole_line.main.body.getD i (.Pass ⟨0, 0, 0, 0⟩)
abbrev s__wall : Stmt := top 0
abbrev s_shape_steps : Stmt := top 26
abbrev s_teeth_worth : Stmt := top 27
abbrev s_step_table : Stmt := top 28
abbrev s_rows_going_on : Stmt := top 30
abbrev s_narrow_row : Stmt := top 31
abbrev s_leads_on : Stmt := top 32
abbrev s_walk_round : Stmt := top 33
abbrev s_first_lasting_step : Stmt := top 34
abbrev s_fill_line : Stmt := top 36
abbrev s_filled_line : Stmt := top 37
abbrev s_places_from : Stmt := top 38
abbrev s_is_name : Stmt := top 40
abbrev s_is_small_letter : Stmt := top 41
abbrev s_are_teeth : Stmt := top 42
abbrev s_Book___init__ : Stmt := inClass (top 44) 0
abbrev s_Book_put : Stmt := inClass (top 44) 1
abbrev s_Book_drop : Stmt := inClass (top 44) 2
abbrev s_Book_add_tooth : Stmt := inClass (top 44) 3
abbrev s_Book_take_off : Stmt := inClass (top 44) 4
abbrev s_Book_undo : Stmt := inClass (top 44) 5
abbrev s_Book_deeds : Stmt := inClass (top 44) 6
abbrev s_Book_names : Stmt := inClass (top 44) 7
abbrev s_Book_teeth : Stmt := inClass (top 44) 8
abbrev s_Book_check_comb : Stmt := inClass (top 44) 9
abbrev s_Book_set_comb : Stmt := inClass (top 44) 10
abbrev s_Book_do_deed : Stmt := inClass (top 44) 11
abbrev s_comb_over_line : Stmt := top 46
abbrev s_check_filled : Stmt := top 47
abbrev s_reaching_places : Stmt := top 48
abbrev s_laying_over : Stmt := top 49
abbrev s_at : Stmt := top 51
abbrev s_mixed : Stmt := top 52
abbrev s_word : Stmt := top 53
abbrev s_spare : Stmt := top 54
abbrev s_menu : Stmt := top 55
abbrev s_combs : Stmt := top 56
abbrev s_book : Stmt := top 57
abbrev s_whole : Stmt := top 58
abbrev s_laying : Stmt := top 59
abbrev s_layings : Stmt := top 60
abbrev s_lineform : Stmt := top 61
abbrev s_after : Stmt := top 62
abbrev s_goes : Stmt := top 63
abbrev s_number : Stmt := top 64
abbrev s_ahead : Stmt := top 65
abbrev s_teeth : Stmt := top 66
abbrev s_kind : Stmt := top 67
abbrev s_refused : Stmt := top 68
abbrev s_over : Stmt := top 69
abbrev s_far : Stmt := top 70
abbrev s_again : Stmt := top 71
abbrev s_less : Stmt := top 72
abbrev s_law : Stmt := top 73
section
variable {P : Program} {w : World} {K : PySem.W.Frag} {mg : Str → Option Value} {base : Heap}
def sp_at (K : PySem.W.Frag) : Sp := fun vs H Q _ => ∃ (a : Addr) (ns : List Int) (k : Int), vs = [.ref a, .int k] ∧ SqL K H a (ns.map V.int) ∧ 0 ≤ k ∧ Q (.int (ns.getD k.toNat 0)) H
theorem sc_at : FnScope ["_law_script", "_law_k"] ["_law_script", "_law_k"] (defScope s_at) := ⟨rfl, rfl, rfl, by decide +kernel, rfl, by decide +kernel, by decide +kernel⟩
theorem ok_at (D : DefAt K mg "_law_at" s_at) (T : Bn mg) : Callee P w K mg base "_law_at" 1 ["_law_script", "_law_k"] (sp_at K) := by
  refine D.callee sc_at (fun _ _ _ _ _ _ us hl => match us, hl with | [_, _], _ => rfl) (fun vs H Q E h => ?_) (fun f cdv A outer s H vs Q E hr h => ?_)
  · obtain ⟨a, ns, k, rfl, _⟩ := h
    rfl
  · obtain ⟨a, ns, k, rfl, hS, h0, q⟩ := h
    have S := sc_at
    refine ⟨_, pss_cons (ps_if (pt_cmpR op_lt (pv 1) (pe_callB call_len_seq rfl T.n_len PySem.boot_len (pa_cons (pv 0) pa_nil)) (nomark _))
      (pss_one (ps_ret (pe_ix ix_list (pv 0) (pv 1) (fun _ _ => rfl))))
      (pss_nil))
    (pss_one (ps_ret (pe_int))), ?_⟩
    refine ⟨_, rfl, _, rfl, _, _, rfl, .inl hS, _, _, rfl, rfl, _, rfl, ?_⟩
    refine ite2 (fun hc => ?_) (fun hc => ?_)
    · have hc := of_decide_eq_true hc
      rw [List.length_map] at hc
      exact ⟨_, rfl, _, rfl, _, _, _, _, rfl, rfl, hS, at_get h0 hc, q⟩
    · have hc : ¬ k < (ns.length : Int) := fun z => hc (decide_eq_true (by rw [List.length_map]; exact z))
      rw [getD_big hc] at q
      exact q
def mixed (c k : Int) : Int := ((c + 7919 * k + 1) * 48271 % 2147483647 + 104729 * k + 3) * 69621 % 2147483647
def sp_mixed : Sp := fun vs H Q _ => ∃ (c k : Int), vs = [.int c, .int k] ∧ Q (.int (mixed c k)) H
theorem sc_mixed : FnScope ["_law_cell", "_law_k", "_law_once"] ["_law_cell", "_law_k"] (defScope s_mixed) := ⟨rfl, rfl, rfl, by decide +kernel, rfl, by decide +kernel, by decide +kernel⟩
theorem ok_mixed (D : DefAt K mg "_law_mixed" s_mixed) (T : Bn mg) : Callee P w K mg base "_law_mixed" 1 ["_law_cell", "_law_k"] sp_mixed := by
  refine D.callee sc_mixed (fun _ _ _ _ _ _ us hl => match us, hl with | [_, _], _ => rfl) (fun vs H Q E h => ?_) (fun f cdv A outer s H vs Q E hr h => ?_)
  · obtain ⟨c, k, rfl, _⟩ := h
    rfl
  · obtain ⟨c, k, rfl, q⟩ := h
    have S := sc_mixed
    refine ⟨_, pss_cons (ps_set (i := 2) S.nd rfl (Or.inl rfl) (pe_op op_mod (pe_op op_mul (pe_op op_add (pe_op op_add (pv 0) (pe_op op_mul (pe_int) (pv 1))) (pe_int)) (pe_int)) (pe_int)))
    (pss_one (ps_ret (pe_op op_mod (pe_op op_mul (pe_op op_add (pe_op op_add (pv 2) (pe_op op_mul (pe_int) (pv 1))) (pe_int)) (pe_int)) (pe_int)))), ?_⟩
    refine ⟨_, rfl, _, rfl, _, _, rfl, rfl, .inl ⟨by decide, by decide⟩, _, _, rfl, rfl, _, _, rfl, rfl, _, _, rfl, rfl, .inr ⟨by decide, by decide⟩, _, _, rfl, rfl, by show (0 : Int) < 2147483647; decide, ?_⟩
    exact ⟨_, rfl, _, rfl, _, _, rfl, rfl, .inl ⟨by decide, by decide⟩, _, _, rfl, rfl, _, _, rfl, rfl, _, _, rfl, rfl, .inr ⟨by decide, by decide⟩, _, _, rfl, rfl, by show (0 : Int) < 2147483647; decide, q⟩
def sp_whole : Sp := fun vs H Q _ => ∃ (i : Int), vs = [.int i] ∧ Q (.bl true) H
theorem sc_whole : FnScope ["_law_found"] ["_law_found"] (defScope s_whole) := ⟨rfl, rfl, rfl, by decide +kernel, rfl, by decide +kernel, by decide +kernel⟩
theorem ok_whole (D : DefAt K mg "_law_whole" s_whole) (T : Bn mg) : Callee P w K mg base "_law_whole" 1 ["_law_found"] sp_whole := by
  refine D.callee sc_whole (fun _ _ _ _ _ _ us hl => match us, hl with | [_], _ => rfl) (fun vs H Q E h => ?_) (fun f cdv A outer s H vs Q E hr h => ?_)
  · obtain ⟨i, rfl, _⟩ := h
    rfl
  · obtain ⟨i, rfl, q⟩ := h
    have S := sc_whole
    refine ⟨_, pss_one (ps_ret (pe_and (pe_callB (call_isT "int") rfl T.n_isinstance boot_isinstance (pa_cons (pv 0) (pa_cons (pe_bltn (v := .ty "int") rfl T.n_int boot_int rfl) pa_nil))) (pe_one (pe_not (pe_callB (call_isT "bool") rfl T.n_isinstance boot_isinstance (pa_cons (pv 0) (pa_cons (pe_bltn (v := .ty "bool") rfl T.n_bool boot_bool rfl) pa_nil))))))), ?_⟩
    refine ⟨_, rfl, _, _, true, rfl, .int i, rfl, _, rfl, ?_⟩
    refine iteT ?_
    exact ⟨_, rfl, _, _, false, rfl, .int i, rfl, _, rfl, q⟩
def sp_word : Sp := fun vs H Q _ => ∃ (c b : Int), vs = [.int c, .int b] ∧ (b = 26 ∨ b = 2) ∧ ∀ x : Str, isName x = true → Q (.str x) H
theorem sc_word : FnScope ["_law_cell", "_law_base", "_law_word_here", "_law_rest", "_law_k"] ["_law_cell", "_law_base"] (defScope s_word) := ⟨rfl, rfl, rfl, by decide +kernel, rfl, by decide +kernel, by decide +kernel⟩
theorem ok_word (D : DefAt K mg "_law_word" s_word) (T : Bn mg) : Callee P w K mg base "_law_word" 1 ["_law_cell", "_law_base"] sp_word := by
  refine D.callee sc_word (fun _ _ _ _ _ _ us hl => match us, hl with | [_, _], _ => rfl) (fun vs H Q E h => ?_) (fun f cdv A outer s H vs Q E hr h => ?_)
  · obtain ⟨c, b, rfl, _⟩ := h
    rfl
  · obtain ⟨c, b, rfl, hb, q⟩ := h
    have S := sc_word
    have b0 : 0 < b := by omega
    have b1 : b ≤ 26 := by omega
    have m0 := Int.emod_nonneg c (show (6 : Int) ≠ 0 by decide)
    have m1 := Int.emod_lt_of_pos c p6
    refine ⟨_, pss_cons (ps_set (i := 2) S.nd rfl (Or.inl rfl) (pe_str))
    (pss_cons (ps_set (i := 3) S.nd rfl (Or.inl rfl) (pe_op op_fdiv (pv 0) (pe_int)))
    (pss_cons (ps_for PassesOwn.never rfl (pi_range1 rfl T.n_range (pa_cons (pe_op op_add (pe_int) (pe_op op_mod (pv 0) (pe_int))) pa_nil)) (pg_name (i := 4) S.nd rfl (Or.inl rfl))
      (pss_cons (ps_set (i := 2) S.nd rfl (Or.inl rfl) (pe_op op_add_str (pv 2) (pe_ix ix_str (pe_str) (pe_op op_mod (pv 3) (pv 1)) (fun _ _ => rfl))))
      (pss_one (ps_set (i := 3) S.nd rfl (Or.inl rfl) (pe_op op_fdiv (pv 3) (pv 1))))))
    (pss_one (ps_ret (pv 2))))), ?_⟩
    refine ⟨_, rfl, _, _, rfl, rfl, ⟨p6, by decide⟩, ?_⟩
    refine ⟨_, rfl, _, _, rfl, rfl, p6, _, _, rfl, rfl, _, rfl, ?_, ?_, ?_⟩
    · show -(2 ^ 62) ≤ 1 + c % 6
      omega
    · show 1 + c % 6 < 2 ^ 62
      omega
    refine for_g (gives_range 0 (1 + c % 6).toNat) (fun i σ H' => H' = H ∧ ∃ (x : Str) (r : Int) (x4 : Option V), σ = [some (.int c), some (.int b), some (.str x), some (.int r), x4] ∧ x.length = i ∧ x.cps.toList.all small = true) ⟨rfl, Str.ofString "", _, _, rfl, by decide, by decide⟩ (fun _ _ _ _ _ => trivial) ?_ ?_
    · rintro i x σ H2 hx ⟨rfl, y, r, x4, rfl, hl, ha⟩
      obtain ⟨hi, rfl⟩ := range_int hx
      obtain ⟨ch, hch, hs⟩ := abc_at (k := r % b) (Int.emod_nonneg _ (by omega)) (by have := Int.emod_lt_of_pos r b0; omega)
      refine ⟨_, rfl, _, rfl, _, rfl, _, _, rfl, rfl, b0, _, _, _, rfl, rfl, ?_, hch, _, _, rfl, rfl, ?_, ?_⟩
      · show abc.length ≤ sizeLine
        rw [abc_len]; decide
      · rw [len_one]
        exact big (by omega)
      refine ⟨_, rfl, _, rfl, _, _, rfl, rfl, ⟨b0, by omega⟩, ?_⟩
      refine ⟨rfl, _, _, _, rfl, by rw [len_app, hl, len_one], ?_⟩
      rw [app_list, List.all_append, ha]
      show (true && [ch].all small) = true
      simp [hs]
    · rintro σ H2 ⟨rfl, y, r, x4, rfl, hl, ha⟩
      rw [List.length_map, List.length_range] at hl
      exact ⟨_, rfl, q y (name_of (by omega) (by omega) ha)⟩
def sp_spare (K : PySem.W.Frag) : Sp := fun vs H Q _ => ∃ (x : Str) (u : Addr) (us : List Str), vs = [.str x, .ref u] ∧ isName x = true ∧ SqL K H u (us.map V.str) ∧ us.length ≤ 25 ∧ ∀ y H', Same H H' → isName y = true → y ∉ us → Q (.str y) H'
def notUsed (us : List Str) (v : V) : Bool := match v with
  | .str y => !decide (y ∈ us)
  | _ => false
theorem sc_spare : FnScope ["_law_word_here", "_law_used"] ["_law_word_here", "_law_used"] (defScope s_spare) := ⟨rfl, rfl, rfl, by decide +kernel, rfl, by decide +kernel, by decide +kernel⟩
theorem ok_spare (D : DefAt K mg "_law_spare" s_spare) (T : Bn mg) : Callee P w K mg base "_law_spare" 1 ["_law_word_here", "_law_used"] (sp_spare K) := by
  refine D.callee sc_spare (fun _ _ _ _ _ _ us hl => match us, hl with | [_, _], _ => rfl) (fun vs H Q E h => ?_) (fun f cdv A outer s H vs Q E hr h => ?_)
  · obtain ⟨x, u, us, rfl, _⟩ := h
    rfl
  · obtain ⟨x, u, us, rfl, hx, hS, hl, q⟩ := h
    have S := sc_spare
    refine ⟨_, pss_cons (ps_if (pt_cmpR op_notIn_seq (pv 0) (pv 1) (by with_unfolding_all rfl))
      (pss_one (ps_ret (pv 0)))
      (pss_nil))
    (pss_one (ps_ret (pe_ix ix_list (pe_comp (own := ["_law_one"]) (caps := [(1, "_law_used")]) rfl ⟨rfl, rfl, rfl, rfl, ⟨⟨rfl, rfl, .inl rfl⟩, trivial⟩⟩ (pi_str (pe_str)) (fun _ _ _ _ _ _ => pg_name (i := 0) (nd_comp (by decide +kernel)) rfl (Or.inl rfl)) (fun _ _ _ _ _ _ => pts_one (pt_cmpR (op_notIn_seq' K rfl) (pv 0) (pv 1) (by with_unfolding_all rfl))) (fun _ _ _ _ _ _ => pv 0)) (pe_int) (fun _ _ => rfl)))), ?_⟩
    refine ⟨_, rfl, _, rfl, _, _, rfl, .inl hS, rfl, flat_strs us, _, rfl, ?_⟩
    rw [if_pos rfl, in_strs]
    refine ite2 (fun hc => ?_) (fun hc => ?_)
    · have h0 : x ∉ us := by simpa using hc
      exact ⟨_, rfl, q x H (Same.refl H) hx h0⟩
    · refine ⟨_, rfl, fun D hD => ?_⟩
      refine comp_s (capv := [some (.ref u)]) (L := abc.cps.toList.map sgn) (by rfl) (gives_str abc) (by rw [List.length_map, txt_len, abc_len]; decide) hD ?_ (notUsed us) (fun v => v) ?_ ?_ ?_
      · exact fun _ _ => trivial
      · intro v hv H' R s' h
        obtain ⟨c, hc, rfl⟩ := List.mem_map.mp hv
        refine ⟨_, rfl, _, rfl, _, _, rfl, .inl (s'.seq hS), rfl, flat_strs us, _, rfl, ?_⟩
        rw [if_pos rfl]
        show R (!inV (V.str ⟨#[c]⟩) (us.map V.str)) H'
        rw [in_strs]
        exact h H' (Same.refl _)
      · intro v hv hp H' R s' h
        exact ⟨_, rfl, h H' (Same.refl _)⟩
      · intro H' s' e
        obtain ⟨c, hc, hn⟩ := spare_some us hl
        have hm : sgn c ∈ ((abc.cps.toList.map sgn).filter (notUsed us)).map fun v => v := by
          rw [List.map_id']
          exact List.mem_filter.mpr ⟨List.mem_map.mpr ⟨c, hc, rfl⟩, by show (!decide ((⟨#[c]⟩ : Str) ∈ us)) = true; simp [hn]⟩
        have hall : ∀ v ∈ ((abc.cps.toList.map sgn).filter (notUsed us)).map fun v => v, ∃ d, v = sgn d ∧ small d = true ∧ (⟨#[d]⟩ : Str) ∉ us := fun v hv => by
          rw [List.map_id'] at hv
          obtain ⟨h1, h2⟩ := List.mem_filter.mp hv
          obtain ⟨d, hd, rfl⟩ := List.mem_map.mp h1
          have h2 : (!decide ((⟨#[d]⟩ : Str) ∈ us)) = true := h2
          exact ⟨d, rfl, abc_small hd, by simpa using h2⟩
        generalize (((abc.cps.toList.map sgn).filter (notUsed us)).map fun v => v) = l at e hm hall
        cases l with
        | nil => cases hm
        | cons v l =>
          obtain ⟨d, rfl, hs, hd⟩ := hall v List.mem_cons_self
          exact ⟨_, _, _, _, rfl, rfl, SqL.of e, (show atI (sgn d :: l) ((0 : Nat) : Int) = some (sgn d) from atI_nat rfl), q _ H' s' (name_one hs) hd⟩
/-! ### the books that are rich in edges -/
def Rows (H : Hp) : List V → List (List Int) → Prop
  | [], [] => True
  | v :: vs, r :: rs => (∃ p, v = .ref p ∧ H p = some (.tup (r.map V.int))) ∧ Rows H vs rs
  | _, _ => False
theorem Rows.same {H H' : Hp} (s : Same H H') : ∀ {vs : List V} {rs : List (List Int)}, Rows H vs rs → Rows H' vs rs
  | [], [], _ => trivial
  | _ :: _, _ :: _, ⟨⟨p, e, h⟩, r⟩ => ⟨⟨p, e, s _ _ h⟩, Rows.same s r⟩
  | [], _ :: _, h => h.elim
  | _ :: _, [], h => h.elim
theorem Rows.snoc {H : Hp} {p : Addr} {r : List Int} (h : H p = some (.tup (r.map V.int))) : ∀ {vs : List V} {rs : List (List Int)}, Rows H vs rs → Rows H (vs ++ [.ref p]) (rs ++ [r])
  | [], [], _ => ⟨⟨p, rfl, h⟩, trivial⟩
  | _ :: _, _ :: _, ⟨a, b⟩ => ⟨a, Rows.snoc h b⟩
  | [], _ :: _, x => x.elim
  | _ :: _, [], x => x.elim
theorem Rows.get {H : Hp} : ∀ {vs : List V} {rs : List (List Int)} {i : Nat} {r : List Int}, Rows H vs rs → rs[i]? = some r → ∃ p, vs[i]? = some (.ref p) ∧ H p = some (.tup (r.map V.int))
  | [], [], _, _, _, e => by simp at e
  | _ :: _, _ :: _, 0, _, ⟨⟨p, e, h⟩, _⟩, z => by
    simp at z
    subst z
    exact ⟨p, by rw [e]; rfl, h⟩
  | _ :: _, _ :: _, i + 1, _, ⟨_, b⟩, z => Rows.get (i := i) b (by simpa using z)
  | [], _ :: _, _, _, x, _ => x.elim
  | _ :: _, [], _, _, x, _ => x.elim
structure Mr (H0 H : Hp) (vs : List V) (rs : List (List Int)) : Prop where
  same : Same H0 H
  rows : Rows H vs rs
theorem Mr.add {H0 H : Hp} {vs : List V} {rs : List (List Int)} (m : Mr H0 H vs rs) (r : List Int) {p : Addr} (n : H p = none) : Mr H0 (upd H p (.tup (r.map V.int))) (vs ++ [.ref p]) (rs ++ [r]) :=
  ⟨m.same.put (m.same.free n), Rows.snoc upd_same (m.rows.same (Same.new n))⟩
theorem Mr.lstE {H0 H : Hp} {vs : List V} {rs : List (List Int)} (m : Mr H0 H vs rs) {o : HO} {p : Addr} (n : H p = none) : Mr H0 (upd H p o) vs rs ∧ upd H p o p = some o := ⟨⟨m.same.put (m.same.free n), m.rows.same (Same.new n)⟩, upd_same⟩
theorem Mr.lst {H0 H : Hp} {vs : List V} {rs : List (List Int)} (m : Mr H0 H vs rs) {o : HO} {p : Addr} (n : H p = none) : Mr H0 (upd H p o) vs rs := ⟨m.same.put (m.same.free n), m.rows.same (Same.new n)⟩
def menuRows : List (List Int) := [[45], [131, 133], [193, 65], [71, 161, 99], [77, 131, 133], [13, 49], [153, 111, 131], [197, 131, 173, 53], [83, 125, 137, 173, 243], [185, 193, 215, 87, 243], [5], [175, 209, 67, 129, 21, 229, 49, 83], [203, 243, 129, 167, 153, 223, 207, 243], [197, 147, 131], [197, 131, 177], [31, 255], [3, 3], [119, 225, 131, 109]]
def MenuRow (xs : List Int) : Prop := (1 ≤ xs.length ∧ xs.length ≤ 8) ∧ ∀ x ∈ xs, x % 2 = 1 ∧ 0 ≤ x ∧ x < 256
theorem menu_ok {i : Nat} {r : List Int} (h : menuRows[i]? = some r) : MenuRow r := by
  have all : ∀ r ∈ menuRows, (1 ≤ r.length ∧ r.length ≤ 8) ∧ ∀ x ∈ r, x % 2 = 1 ∧ 0 ≤ x ∧ x < 256 := by decide
  exact all r (List.mem_of_getElem? h)
def sp_menu : Sp := fun vs H Q _ => ∃ (k : Int), vs = [.int k] ∧ ∀ p xs H', Same H H' → H' p = some (.tup (xs.map V.int)) → MenuRow xs → Q (.ref p) H'
theorem sc_menu : FnScope ["_law_k", "_law_rows"] ["_law_k"] (defScope s_menu) := ⟨rfl, rfl, rfl, by decide +kernel, rfl, by decide +kernel, by decide +kernel⟩
theorem ok_menu (D : DefAt K mg "_law_menu" s_menu) (T : Bn mg) : Callee P w K mg base "_law_menu" 1 ["_law_k"] sp_menu := by
  refine D.calleeQ sc_menu (fun _ _ _ _ _ _ us hl => match us, hl with | [_], _ => rfl) (fun vs H Q E h => ?_) (fun f cdv A outer s H vs Q E hr h => ?_)
  · obtain ⟨k, rfl, _⟩ := h
    rfl
  · obtain ⟨k, rfl, q⟩ := h
    have S := sc_menu
    refine ⟨_, qss_cons (qs_set (i := 1) S.nd rfl (Or.inl rfl) (qe_lst (qa_cons (qe_tup (qa_cons (qe (pe_int)) (qa_nil))) (qa_cons (qe_tup (qa_cons (qe (pe_int)) (qa_cons (qe (pe_int)) (qa_nil)))) (qa_cons (qe_tup (qa_cons (qe (pe_int)) (qa_cons (qe (pe_int)) (qa_nil)))) (qa_cons (qe_tup (qa_cons (qe (pe_int)) (qa_cons (qe (pe_int)) (qa_cons (qe (pe_int)) (qa_nil))))) (qa_cons (qe_tup (qa_cons (qe (pe_int)) (qa_cons (qe (pe_int)) (qa_cons (qe (pe_int)) (qa_nil))))) (qa_cons (qe_tup (qa_cons (qe (pe_int)) (qa_cons (qe (pe_int)) (qa_nil)))) (qa_cons (qe_tup (qa_cons (qe (pe_int)) (qa_cons (qe (pe_int)) (qa_cons (qe (pe_int)) (qa_nil))))) (qa_nil))))))))))
    (qss_cons (qs_set (i := 1) S.nd rfl (Or.inl rfl) (qe_op op_cat (qe (pv 1)) (qe_lst (qa_cons (qe_tup (qa_cons (qe (pe_int)) (qa_cons (qe (pe_int)) (qa_cons (qe (pe_int)) (qa_cons (qe (pe_int)) (qa_nil)))))) (qa_cons (qe_tup (qa_cons (qe (pe_int)) (qa_cons (qe (pe_int)) (qa_cons (qe (pe_int)) (qa_cons (qe (pe_int)) (qa_cons (qe (pe_int)) (qa_nil))))))) (qa_cons (qe_tup (qa_cons (qe (pe_int)) (qa_cons (qe (pe_int)) (qa_cons (qe (pe_int)) (qa_cons (qe (pe_int)) (qa_cons (qe (pe_int)) (qa_nil))))))) (qa_cons (qe_tup (qa_cons (qe (pe_int)) (qa_nil))) (qa_nil))))))))
    (qss_cons (qs_set (i := 1) S.nd rfl (Or.inl rfl) (qe_op op_cat (qe (pv 1)) (qe_lst (qa_cons (qe_tup (qa_cons (qe (pe_int)) (qa_cons (qe (pe_int)) (qa_cons (qe (pe_int)) (qa_cons (qe (pe_int)) (qa_cons (qe (pe_int)) (qa_cons (qe (pe_int)) (qa_cons (qe (pe_int)) (qa_cons (qe (pe_int)) (qa_nil)))))))))) (qa_cons (qe_tup (qa_cons (qe (pe_int)) (qa_cons (qe (pe_int)) (qa_cons (qe (pe_int)) (qa_cons (qe (pe_int)) (qa_cons (qe (pe_int)) (qa_cons (qe (pe_int)) (qa_cons (qe (pe_int)) (qa_cons (qe (pe_int)) (qa_nil)))))))))) (qa_nil))))))
    (qss_cons (qs_set (i := 1) S.nd rfl (Or.inl rfl) (qe_op op_cat (qe (pv 1)) (qe_lst (qa_cons (qe_tup (qa_cons (qe (pe_int)) (qa_cons (qe (pe_int)) (qa_cons (qe (pe_int)) (qa_nil))))) (qa_cons (qe_tup (qa_cons (qe (pe_int)) (qa_cons (qe (pe_int)) (qa_cons (qe (pe_int)) (qa_nil))))) (qa_cons (qe_tup (qa_cons (qe (pe_int)) (qa_cons (qe (pe_int)) (qa_nil)))) (qa_cons (qe_tup (qa_cons (qe (pe_int)) (qa_cons (qe (pe_int)) (qa_nil)))) (qa_cons (qe_tup (qa_cons (qe (pe_int)) (qa_cons (qe (pe_int)) (qa_cons (qe (pe_int)) (qa_cons (qe (pe_int)) (qa_nil)))))) (qa_nil)))))))))
    (qss_one (qs_ret (qe (pe_ix ix_list (pv 1) (pe_op op_mod (pv 0) (pe_callB call_len_seq rfl T.n_len PySem.boot_len (pa_cons (pv 1) pa_nil))) (fun _ _ => rfl)))))))), ?_⟩
    have M : Mr H H [] [] := ⟨Same.refl H, trivial⟩
    refine ⟨bigr rfl, fun a1 na => ?_⟩
    replace M := M.add [45] na
    clear na
    refine ⟨bigr rfl, fun a2 na => ?_⟩
    replace M := M.add [131, 133] na
    clear na
    refine ⟨bigr rfl, fun a3 na => ?_⟩
    replace M := M.add [193, 65] na
    clear na
    refine ⟨bigr rfl, fun a4 na => ?_⟩
    replace M := M.add [71, 161, 99] na
    clear na
    refine ⟨bigr rfl, fun a5 na => ?_⟩
    replace M := M.add [77, 131, 133] na
    clear na
    refine ⟨bigr rfl, fun a6 na => ?_⟩
    replace M := M.add [13, 49] na
    clear na
    refine ⟨bigr rfl, fun a7 na => ?_⟩
    replace M := M.add [153, 111, 131] na
    clear na
    refine ⟨bigr rfl, fun b0 nb => ?_⟩
    obtain ⟨M, e⟩ := M.lstE (o := .lst [V.ref a1, V.ref a2, V.ref a3, V.ref a4, V.ref a5, V.ref a6, V.ref a7]) nb
    clear nb
    refine ⟨_, rfl, ?_⟩
    refine ⟨bigr rfl, fun a8 na => ?_⟩
    replace M := M.add [197, 131, 173, 53] na
    replace e := keepL (o := .tup (([197, 131, 173, 53] : List Int).map V.int)) e na
    clear na
    refine ⟨bigr rfl, fun a9 na => ?_⟩
    replace M := M.add [83, 125, 137, 173, 243] na
    replace e := keepL (o := .tup (([83, 125, 137, 173, 243] : List Int).map V.int)) e na
    clear na
    refine ⟨bigr rfl, fun a10 na => ?_⟩
    replace M := M.add [185, 193, 215, 87, 243] na
    replace e := keepL (o := .tup (([185, 193, 215, 87, 243] : List Int).map V.int)) e na
    clear na
    refine ⟨bigr rfl, fun a11 na => ?_⟩
    replace M := M.add [5] na
    replace e := keepL (o := .tup (([5] : List Int).map V.int)) e na
    clear na
    refine ⟨bigr rfl, fun b1 nb => ?_⟩
    obtain ⟨M, e2⟩ := M.lstE (o := .lst [V.ref a8, V.ref a9, V.ref a10, V.ref a11]) nb
    replace e := keepL (o := .lst [V.ref a8, V.ref a9, V.ref a10, V.ref a11]) e nb
    clear nb
    refine ⟨_, _, _, _, rfl, rfl, e, e2, bigr rfl, fun c1 nc => ?_⟩
    obtain ⟨M, e⟩ := M.lstE (o := .lst [V.ref a1, V.ref a2, V.ref a3, V.ref a4, V.ref a5, V.ref a6, V.ref a7, V.ref a8, V.ref a9, V.ref a10, V.ref a11]) nc
    clear nc e2
    refine ⟨_, rfl, ?_⟩
    refine ⟨bigr rfl, fun a12 na => ?_⟩
    replace M := M.add [175, 209, 67, 129, 21, 229, 49, 83] na
    replace e := keepL (o := .tup (([175, 209, 67, 129, 21, 229, 49, 83] : List Int).map V.int)) e na
    clear na
    refine ⟨bigr rfl, fun a13 na => ?_⟩
    replace M := M.add [203, 243, 129, 167, 153, 223, 207, 243] na
    replace e := keepL (o := .tup (([203, 243, 129, 167, 153, 223, 207, 243] : List Int).map V.int)) e na
    clear na
    refine ⟨bigr rfl, fun b2 nb => ?_⟩
    obtain ⟨M, e2⟩ := M.lstE (o := .lst [V.ref a12, V.ref a13]) nb
    replace e := keepL (o := .lst [V.ref a12, V.ref a13]) e nb
    clear nb
    refine ⟨_, _, _, _, rfl, rfl, e, e2, bigr rfl, fun c2 nc => ?_⟩
    obtain ⟨M, e⟩ := M.lstE (o := .lst [V.ref a1, V.ref a2, V.ref a3, V.ref a4, V.ref a5, V.ref a6, V.ref a7, V.ref a8, V.ref a9, V.ref a10, V.ref a11, V.ref a12, V.ref a13]) nc
    clear nc e2
    refine ⟨_, rfl, ?_⟩
    refine ⟨bigr rfl, fun a14 na => ?_⟩
    replace M := M.add [197, 147, 131] na
    replace e := keepL (o := .tup (([197, 147, 131] : List Int).map V.int)) e na
    clear na
    refine ⟨bigr rfl, fun a15 na => ?_⟩
    replace M := M.add [197, 131, 177] na
    replace e := keepL (o := .tup (([197, 131, 177] : List Int).map V.int)) e na
    clear na
    refine ⟨bigr rfl, fun a16 na => ?_⟩
    replace M := M.add [31, 255] na
    replace e := keepL (o := .tup (([31, 255] : List Int).map V.int)) e na
    clear na
    refine ⟨bigr rfl, fun a17 na => ?_⟩
    replace M := M.add [3, 3] na
    replace e := keepL (o := .tup (([3, 3] : List Int).map V.int)) e na
    clear na
    refine ⟨bigr rfl, fun a18 na => ?_⟩
    replace M := M.add [119, 225, 131, 109] na
    replace e := keepL (o := .tup (([119, 225, 131, 109] : List Int).map V.int)) e na
    clear na
    refine ⟨bigr rfl, fun b3 nb => ?_⟩
    obtain ⟨M, e2⟩ := M.lstE (o := .lst [V.ref a14, V.ref a15, V.ref a16, V.ref a17, V.ref a18]) nb
    replace e := keepL (o := .lst [V.ref a14, V.ref a15, V.ref a16, V.ref a17, V.ref a18]) e nb
    clear nb
    refine ⟨_, _, _, _, rfl, rfl, e, e2, bigr rfl, fun c3 nc => ?_⟩
    obtain ⟨M, e⟩ := M.lstE (o := .lst [V.ref a1, V.ref a2, V.ref a3, V.ref a4, V.ref a5, V.ref a6, V.ref a7, V.ref a8, V.ref a9, V.ref a10, V.ref a11, V.ref a12, V.ref a13, V.ref a14, V.ref a15, V.ref a16, V.ref a17, V.ref a18]) nc
    clear nc e2
    have p18 : (0 : Int) < 18 := by decide
    have k0 := Int.emod_nonneg k (show (18 : Int) ≠ 0 by decide)
    have k1 := Int.emod_lt_of_pos k p18
    have hi : (k % 18).toNat < menuRows.length := by
      show (k % 18).toNat < 18
      omega
    obtain ⟨p, hp, ht⟩ := Rows.get (rs := menuRows) M.rows (List.getElem?_eq_getElem hi)
    have ek : (((k % 18).toNat : Nat) : Int) = k % 18 := by omega
    refine ⟨_, rfl, _, rfl, _, rfl, _, _, rfl, .inl (SqL.of e), _, _, rfl, rfl, p18, _, _, _, _, rfl, rfl, SqL.of e, ?_, q p _ _ M.same ht (menu_ok (List.getElem?_eq_getElem hi))⟩
    show atI _ (k % 18) = _
    rw [← ek]
    exact atI_nat hp
theorem p3 : (0 : Int) < 3 := by decide
theorem p14 : (0 : Int) < 14 := by decide
theorem p42 : (0 : Int) < 42 := by decide
theorem p128c : (0 : Int) < 128 := by decide
def manyL : List Int := [2, 3, 1, 2, 4, 3, 1, 5, 2, 0, 8, 7, 6, 1]
theorem manyL_at {k : Int} (h0 : 0 ≤ k) (h1 : k < 14) : ∃ m : Int, atI (manyL.map V.int) k = some (V.int m) ∧ 0 ≤ m ∧ m ≤ 8 := by
  refine ⟨_, at_get h0 (by show k < 14; exact h1), ?_⟩
  have all : ∀ x ∈ manyL, 0 ≤ x ∧ x ≤ 8 := by decide
  refine all _ ?_
  have hk : k.toNat < manyL.length := by show k.toNat < 14; omega
  rw [List.getD_eq_getElem?_getD, List.getElem?_eq_getElem hk]
  exact List.getElem_mem hk
theorem base_at {k : Int} (h0 : 0 ≤ k) (h1 : k < 2) : ∃ b : Int, atI [V.int 26, V.int 2] k = some (V.int b) ∧ (b = 26 ∨ b = 2) := by
  rcases (by omega : k = 0 ∨ k = 1) with h | h <;> subst h
  · exact ⟨26, rfl, .inl rfl⟩
  · exact ⟨2, rfl, .inr rfl⟩
def bitOf (b : Int) (v : V) : Bool := match v with
  | .int t => decide (Builtin.bitAnd (b / 2 ^ t.toNat) 1 = 1)
  | _ => false
def sp_combs (K : PySem.W.Frag) : Sp := fun vs H Q _ => ∃ (a : Addr) (ns : List Int), vs = [.ref a] ∧ SqL K H a (ns.map V.int) ∧ ∀ p ks vs H', Same H H' → H p = none → H' p = some (.lst vs) → Drawn (fun _ => True) H' vs ks → ks.length ≤ 8 → Q (.ref p) H'
theorem sc_combs : FnScope ["_law_script", "_law_head", "_law_menu_here", "_law_many", "_law_found", "_law_used", "_law_k", "_law_cell", "_law_bits", "_law_word_here"] ["_law_script"] (defScope s_combs) := ⟨rfl, rfl, rfl, by decide +kernel, rfl, by decide +kernel, by decide +kernel⟩
theorem ok_combs (D : DefAt K mg "_law_combs" s_combs) (T : Bn mg) (C_at : Callee P w K mg base "_law_at" 1 ["_law_script", "_law_k"] (sp_at K)) (C_mixed : Callee P w K mg base "_law_mixed" 1 ["_law_cell", "_law_k"] sp_mixed) (C_word : Callee P w K mg base "_law_word" 1 ["_law_cell", "_law_base"] sp_word)
    (C_spare : Callee P w K mg base "_law_spare" 1 ["_law_word_here", "_law_used"] (sp_spare K)) (C_menu : Callee P w K mg base "_law_menu" 1 ["_law_k"] sp_menu) : Callee P w K mg base "_law_combs" 2 ["_law_script"] (sp_combs K) := by
  refine D.calleeQ sc_combs (fun _ _ _ _ _ _ us hl => match us, hl with | [_], _ => rfl) (fun vs H Q E h => ?_) (fun f cdv A outer s H vs Q E hr h => ?_)
  · obtain ⟨a, ns, rfl, _⟩ := h
    rfl
  · obtain ⟨a, ns, rfl, hS, q⟩ := h
    have S := sc_combs
    refine ⟨_, qss_cons (qs_set (i := 1) S.nd rfl (Or.inl rfl) (qe (pe_fn C_at (hr.mono (by decide)) rfl (pa_cons (pv 0) (pa_cons (pe_int) pa_nil)))))
    (qss_cons (qs_set (i := 2) S.nd rfl (Or.inl rfl) (qe (pe_fn C_menu (hr.mono (by decide)) rfl (pa_cons (pe_fn C_at (hr.mono (by decide)) rfl (pa_cons (pv 0) (pa_cons (pe_int) pa_nil))) pa_nil))))
    (qss_cons (qs_set (i := 3) S.nd rfl (Or.inl rfl) (qe_ix ix_list (qe_lst (qa_cons (qe (pe_int)) (qa_cons (qe (pe_int)) (qa_cons (qe (pe_int)) (qa_cons (qe (pe_int)) (qa_cons (qe (pe_int)) (qa_cons (qe (pe_int)) (qa_cons (qe (pe_int)) (qa_cons (qe (pe_int)) (qa_cons (qe (pe_int)) (qa_cons (qe (pe_int)) (qa_cons (qe (pe_int)) (qa_cons (qe (pe_int)) (qa_cons (qe (pe_int)) (qa_cons (qe (pe_int)) (qa_nil)))))))))))))))) (qe (pe_op op_mod (pe_op op_fdiv (pv 1) (pe_int)) (pe_int))) (fun _ _ => rfl)))
    (qss_cut (qs (ps_if (pt_cmpR op_eq (pe_op op_mod (pv 1) (pe_int)) (pe_int) (nomark _))
      (pss_one (ps_set (i := 3) S.nd rfl (Or.inl rfl) (pe_callB call_len_seq rfl T.n_len PySem.boot_len (pa_cons (pv 2) pa_nil))))
      (pss_nil)))
    (qss_cons (qs_set (i := 4) S.nd rfl (Or.inl rfl) (qe_lst (qa_nil)))
    (qss_cons (qs_set (i := 5) S.nd rfl (Or.inl rfl) (qe_lst (qa_nil)))
    (qss_cons (qs (ps_for PassesOwn.never rfl (pi_range1 rfl T.n_range (pa_cons (pv 3) pa_nil)) (pg_name (i := 6) S.nd rfl (Or.inl rfl))
      (pss_cons (ps_set (i := 7) S.nd rfl (Or.inl rfl) (pe_fn C_at (hr.mono (by decide)) rfl (pa_cons (pv 0) (pa_cons (pe_op op_add (pe_int) (pv 6)) pa_nil))))
      (pss_cut (ps_if (pt_cmpR op_gt (pe_op op_mod (pv 1) (pe_int)) (pe_int) (nomark _))
        (pss_one (ps_set (i := 7) S.nd rfl (Or.inl rfl) (pe_fn C_mixed (hr.mono (by decide)) rfl (pa_cons (pv 7) (pa_cons (pv 6) pa_nil)))))
        (pss_nil))
      (pss_cons (ps_set (i := 8) S.nd rfl (Or.inr rfl) (pe_op op_add (pe_op op_mul (pe_op op_mod (pv 7) (pe_int)) (pe_int)) (pe_int)))
      (pss_cut (ps_if (pt_cmpR op_eq (pe_op op_mod (pv 1) (pe_int)) (pe_int) (nomark _))
        (pss_one (ps_set (i := 8) S.nd rfl (Or.inr rfl) (pe_ix ix_tup (pv 2) (pv 6) (fun _ _ => rfl))))
        (pss_nil))
      (pss_cons (ps_set (i := 9) S.nd rfl (Or.inl rfl) (pe_fn C_spare (hr.mono (by decide)) rfl (pa_cons (pe_fn C_word (hr.mono (by decide)) rfl (pa_cons (pe_op op_fdiv (pv 7) (pe_int)) (pa_cons (pe_ix ix_list (pe_lst (pa_cons (pe_int) (pa_cons (pe_int) pa_nil))) (pe_op op_mod (pe_op op_fdiv (pv 1) (pe_int)) (pe_int)) (fun _ _ => rfl)) pa_nil))) (pa_cons (pv 5) pa_nil))))
      (pss_cons (ps_expr (pe_bm PySem.F.plainAttrs_list PySem.F.slot_list_append PySem.F.type_list_append mt_append (pv 5) (pa_cons (pv 9) pa_nil)))
      (pss_one (ps_expr (pe_bm PySem.F.plainAttrs_list PySem.F.slot_list_append PySem.F.type_list_append mt_append (pv 4) (pa_cons (pe_lst (pa_cons (pv 9) (pa_cons (pe_comp (own := ["_law_t"]) (caps := [(8, "_law_bits")]) rfl ⟨rfl, rfl, rfl, rfl, ⟨⟨rfl, rfl, .inl rfl⟩, trivial⟩⟩ (pi_range1 rfl T.n_range (pa_cons (pe_int) pa_nil)) (fun _ _ _ _ _ _ => pg_name (i := 0) (nd_comp (by decide +kernel)) rfl (Or.inl rfl)) (fun _ _ _ _ _ _ => pts_one (pt_cmpR op_eq (pe_op op_and (pe_op op_shr (pv 1) (pv 0)) (pe_int)) (pe_int) (nomark _))) (fun _ _ _ _ _ _ => pv 0)) pa_nil))) pa_nil))))))))))))
    (qss_one (qs_ret (qe (pv 4)))))))))), ?_⟩
    refine ⟨_, rfl, a, ns, 0, rfl, hS, by decide, ?_⟩
    generalize ns.getD (Int.toNat 0) 0 = head
    refine ⟨_, rfl, a, ns, 1, rfl, hS, by decide, _, rfl, fun pm xs H1 s1 em hm => ?_⟩
    obtain ⟨m, hma, hm0, hm8⟩ := manyL_at (k := head / 3 % 14) (Int.emod_nonneg _ (by decide)) (Int.emod_lt_of_pos _ p14)
    refine ⟨bigr rfl, fun b nb => ⟨_, rfl, _, _, rfl, rfl, ⟨p3, by decide⟩, _, _, rfl, rfl, p14, _, _, _, _, rfl, rfl, SqL.of upd_same, hma, ?_⟩⟩
    have s2 : Same H (upd H1 b (.lst (manyL.map V.int))) := s1.put (s1.free nb)
    have em2 : upd H1 b (.lst (manyL.map V.int)) pm = some (.tup (xs.map V.int)) := by rw [upd_ne (ne_of_none em nb)]; exact em
    refine ⟨fun σ H' => Same H H' ∧ H' pm = some (.tup (xs.map V.int)) ∧ ∃ m : Int, σ = [some (.ref a), some (.int head), some (.ref pm), some (.int m), none, none, none, none, none, none] ∧ 0 ≤ m ∧ m ≤ 8 ∧ (head % 3 = 2 → m = xs.length), ?_, ?_⟩
    · refine ⟨_, rfl, _, _, rfl, rfl, p3, rfl, _, rfl, ?_⟩
      refine ite2 (fun hc => ?_) (fun hc => ?_)
      · refine ⟨_, rfl, _, _, rfl, .inr (SqT.of em2), ?_⟩
        rw [List.length_map]
        exact ⟨s2, em2, _, rfl, by omega, by have := hm.1.2; omega, fun _ => rfl⟩
      · have hc : ¬ head % 3 = 2 := by simpa using hc
        exact ⟨s2, em2, _, rfl, hm0, hm8, fun z => absurd z hc⟩
    clear s2 em2 hma hm0 hm8 nb b m s1 em H1
    rintro σ H1 ⟨s1, em, m, rfl, hm0, hm8, hm2⟩
    refine ⟨bigr rfl, fun pf nf => ?_⟩
    refine ⟨bigr rfl, fun pu nu => ?_⟩
    have nfu : pf ≠ pu := fun z => by rw [← z, upd_same] at nu; cases nu
    have fH : H pf = none := s1.free nf
    have s2 := (s1.put (o := .lst []) fH)
    have uH : H pu = none := s2.free nu
    have s3 := s2.put (o := .lst []) uH
    have em3 : upd (upd H1 pf (.lst [])) pu (.lst []) pm = some (.tup (xs.map V.int)) := by
      rw [upd_ne (ne_of_none (by rw [upd_ne (ne_of_none em nf)]; exact em) nu), upd_ne (ne_of_none em nf)]; exact em
    refine ⟨_, rfl, _, rfl, by omega, by omega, ?_⟩
    refine for_g (gives_range 0 m.toNat) (fun i σ H' => Same H H' ∧ H' pm = some (.tup (xs.map V.int)) ∧ ∃ (vs : List V) (ks : List (Str × List Int)) (x6 x7 x8 x9 : Option V), σ = [some (.ref a), some (.int head), some (.ref pm), some (.int m), some (.ref pf), some (.ref pu), x6, x7, x8, x9] ∧
      H' pf = some (.lst vs) ∧ H' pu = some (.lst ((ks.map (·.1)).map V.str)) ∧ Drawn (fun x => x ≠ pf ∧ x ≠ pu) H' vs ks ∧ ks.length = i) ⟨s3, em3, [], [], _, _, _, _, rfl, by rw [upd_ne nfu, upd_same], by rw [upd_same]; rfl, ⟨trivial, List.nodup_nil, by simp⟩, rfl⟩ (fun _ _ _ _ _ => trivial) ?_ ?_
    · rintro i x σ H2 hx ⟨s2, em2, vs, ks, x6, x7, x8, x9, rfl, ef, eu, dr, hl⟩
      obtain ⟨hi, rfl⟩ := range_int hx
      have hi8 : i < 8 := by omega
      have hS2 := s2.seq hS
      refine ⟨_, rfl, _, rfl, _, _, rfl, rfl, a, ns, _, rfl, hS2, ?_, ?_⟩
      · show (0 : Int) ≤ 1 + (0 + ((i : Nat) : Int))
        omega
      generalize ns.getD (1 + (0 + ((i : Nat) : Int))).toNat 0 = cell0
      refine ⟨fun σ H' => H' = H2 ∧ ∃ (c : Int), σ = [some (.ref a), some (.int head), some (.ref pm), some (.int m), some (.ref pf), some (.ref pu), some (.int (0 + ((i : Nat) : Int))), some (.int c), x8, x9], ?_, ?_⟩
      · refine ⟨_, rfl, _, _, rfl, rfl, p3, _, _, rfl, rfl, _, rfl, ?_⟩
        refine ite2 (fun _ => ?_) (fun _ => ?_)
        · exact ⟨_, rfl, _, rfl, _, _, rfl, rfl, _, rfl⟩
        · exact ⟨rfl, _, rfl⟩
      rintro σ H3 ⟨rfl, c, rfl⟩
      have c0 := Int.emod_nonneg c (show (128 : Int) ≠ 0 by decide)
      have c1 := Int.emod_lt_of_pos c p128c
      refine ⟨_, rfl, _, _, rfl, rfl, p128c, _, _, rfl, rfl, .inr ⟨by decide, by decide⟩, _, _, rfl, rfl, ?_⟩
      refine ⟨fun σ H' => H' = H3 ∧ ∃ (bt : Int), σ = [some (.ref a), some (.int head), some (.ref pm), some (.int m), some (.ref pf), some (.ref pu), some (.int (0 + ((i : Nat) : Int))), some (.int c), some (.int bt), x9] ∧ bt % 2 = 1 ∧ 0 ≤ bt, ?_, ?_⟩
      · refine ⟨_, rfl, _, _, rfl, rfl, p3, rfl, _, rfl, ?_⟩
        refine ite2 (fun hc => ?_) (fun hc => ?_)
        · have hc : head % 3 = 2 := by simpa using hc
          have hix : i < xs.length := by have := hm2 hc; omega
          have hat : atI (xs.map V.int) (0 + ((i : Nat) : Int)) = some (V.int xs[i]) := by
            rw [Int.zero_add]
            refine atI_nat ?_
            rw [List.getElem?_map, List.getElem?_eq_getElem hix]
            rfl
          have := hm.2 xs[i] (List.getElem_mem hix)
          exact ⟨_, rfl, _, rfl, _, _, _, _, rfl, rfl, SqT.of em2, hat, rfl, _, rfl, this.1, this.2.1⟩
        · exact ⟨rfl, _, rfl, by omega, by omega⟩
      rintro σ H4 ⟨rfl, bt, rfl, hb1, hb0⟩
      obtain ⟨bs, hbs, hb2⟩ := base_at (k := head / 42 % 2) (Int.emod_nonneg _ (by decide)) (Int.emod_lt_of_pos _ p2)
      refine ⟨_, rfl, _, _, rfl, rfl, ⟨p128c, by decide⟩, bigr rfl, fun b nb => ⟨_, rfl, _, _, rfl, rfl, ⟨p42, by decide⟩, _, _, rfl, rfl, p2, _, _, _, _, rfl, rfl, SqL.of upd_same, hbs, _, _, rfl, hb2, fun y hy => ?_⟩⟩
      have s4 := s2.put (o := .lst [V.int 26, V.int 2]) (s2.free nb)
      have t4 : Same H4 (upd H4 b (.lst [V.int 26, V.int 2])) := Same.new nb
      have eu4 := t4 _ _ eu
      refine ⟨_, rfl, y, pu, ks.map (·.1), rfl, hy, SqL.of eu4, by rw [List.length_map]; omega, fun z H5 s5 hz hzn => ?_⟩
      have s5H := s4.trans s5
      have t5 := t4.trans s5
      have eu5 := t5 _ _ eu
      have ef5 := t5 _ _ ef
      have em5 := t5 _ _ em2
      have dr5 := dr.same t5
      -- used.append
      refine ⟨_, rfl, .inl ⟨rfl, _, SqL.of eu5⟩, _, rfl, _, _, _, rfl, rfl, eu5, ?_, ?_⟩
      · rw [List.length_map, List.length_map]
        exact Nat.lt_of_lt_of_le (by omega : ks.length < 1000) sizeBig
      have s6 := s5H.put (o := .lst ((ks.map (·.1)).map V.str ++ [V.str z])) uH
      have dr6 : Drawn (fun x => x ≠ pf ∧ x ≠ pu) (upd H5 pu (.lst ((ks.map (·.1)).map V.str ++ [V.str z]))) vs ks := dr5.upd fun z => z.2 rfl
      have em6 : upd H5 pu (.lst ((ks.map (·.1)).map V.str ++ [V.str z])) pm = some (.tup (xs.map V.int)) := by
        rw [upd_ne (fun w => by rw [w, eu5] at em5; cases em5)]; exact em5
      have ef6 : upd H5 pu (.lst ((ks.map (·.1)).map V.str ++ [V.str z])) pf = some (.lst vs) := by rw [upd_ne nfu]; exact ef5
      have eu6 : upd H5 pu (.lst ((ks.map (·.1)).map V.str ++ [V.str z])) pu = some (.lst ((ks.map (·.1)).map V.str ++ [V.str z])) := upd_same
      generalize upd H5 pu (.lst ((ks.map (·.1)).map V.str ++ [V.str z])) = H6 at s6 dr6 em6 ef6 eu6
      -- found.append
      refine ⟨_, rfl, .inl ⟨rfl, _, SqL.of ef6⟩, _, rfl, _, rfl, by decide, by decide, fun Dc hD => ?_⟩
      refine comp_s (capv := [some (.int bt)]) (by rfl) (gives_range 0 (8 : Int).toNat) (bigr rfl) hD ?_ (bitOf bt) (fun v => v) ?_ ?_ ?_
      · exact fun _ _ => trivial
      · intro v hv H' R s' h
        obtain ⟨t, ht, rfl⟩ := List.mem_map.mp hv
        refine ⟨_, rfl, _, rfl, _, _, rfl, rfl, ?_, _, _, rfl, rfl, rfl, _, rfl, ?_⟩
        · show (0 : Int) ≤ 0 + ((t : Nat) : Int)
          omega
        rw [dec_ii]
        exact h H' (Same.refl _)
      · intro v hv hp H' R s' h
        exact ⟨_, rfl, h H' (Same.refl _)⟩
      intro H7 s7 e7
      have ets : (((((List.range (8 : Int).toNat).map fun i => V.int (0 + ((i : Nat) : Int))).filter (bitOf bt)).map fun v => v)) = (((List.range 8).filter fun i => bitOf bt (.int (0 + ((i : Nat) : Int)))).map fun i => ((i : Nat) : Int)).map V.int := by
        rw [List.map_id', List.filter_map, List.map_map]
        show List.map _ (List.filter _ (List.range 8)) = _
        congr 1
        funext i
        show V.int (0 + ((i : Nat) : Int)) = V.int ((i : Nat) : Int)
        rw [Int.zero_add]
      have gt : GT (((List.range 8).filter fun i => bitOf bt (.int (0 + ((i : Nat) : Int)))).map fun i => ((i : Nat) : Int)) := by
        refine ⟨_, rfl, ?_⟩
        show decide (Builtin.bitAnd (bt / 2 ^ (0 + ((0 : Nat) : Int)).toNat) 1 = 1) = true
        rw [bitAnd_m1]
        apply decide_eq_true
        show bt / 1 % 2 = 1
        rw [Int.ediv_one]
        exact hb1
      rw [ets] at e7
      generalize (((List.range 8).filter fun i => bitOf bt (.int (0 + ((i : Nat) : Int)))).map fun i => ((i : Nat) : Int)) = ts at e7 gt
      refine ⟨bigr rfl, fun q' nq => ?_⟩
      have t7 : Same H6 H7 := s7
      have n7 : ∀ {x o}, H6 x = some o → x ≠ Dc := fun e z => by rw [z, hD] at e; cases e
      have n8 : ∀ {x o}, H7 x = some o → x ≠ q' := fun e z => by rw [z, nq] at e; cases e
      have ef8 : upd H7 q' (.lst [V.str z, V.ref Dc]) pf = some (.lst vs) := by rw [upd_ne (n8 (t7 _ _ ef6))]; exact t7 _ _ ef6
      refine ⟨_, _, _, rfl, rfl, ef8, ?_, ?_⟩
      · rw [dr6.rows.length]
        exact Nat.lt_of_lt_of_le (by omega : ks.length < 1000) sizeBig
      have s8 := ((s6.trans s7).put (o := .lst [V.str z, V.ref Dc]) ((s6.trans s7).free nq)).put (o := .lst (vs ++ [V.ref q'])) fH
      have fq : q' ≠ pf := (n8 (t7 _ _ ef6)).symm
      have uq : q' ≠ pu := (n8 (t7 _ _ eu6)).symm
      refine ⟨s8, ?_, vs ++ [.ref q'], ks ++ [(z, ts)], _, _, _, _, rfl, upd_same, ?_, ?_, by rw [List.length_append, hl]; rfl⟩
      · have fm : pm ≠ pf := fun w => by rw [w, ef6] at em6; cases em6
        rw [upd_ne fm, upd_ne (n8 (t7 _ _ em6))]
        exact t7 _ _ em6
      · rw [upd_ne nfu.symm, upd_ne (n8 (t7 _ _ eu6)), t7 _ _ eu6, List.map_append, List.map_append]
        rfl
      · refine Drawn.snoc (q := q') (t := Dc) (((dr6.same t7).same (Same.new nq)).upd fun w => w.1 rfl) ?_ ?_ ⟨fq, uq⟩ ⟨(n7 ef6).symm, (n7 eu6).symm⟩ hzn ⟨hz, gt⟩
        · rw [upd_ne fq, upd_same]
        · rw [upd_ne (n7 ef6).symm, upd_ne (n8 e7)]
          exact e7
    · rintro σ H2 ⟨s2, em2, vs, ks, x6, x7, x8, x9, rfl, ef, eu, dr, hl⟩
      rw [List.length_map, List.length_range] at hl
      exact ⟨_, rfl, q pf ks vs H2 s2 fH ef dr.any (by omega)⟩
--CUT--
/-! ### which refusal it is -/
structure Ea (mg : Str → Option Value) (ea : Nat → Addr) : Prop where
  n0 : mg "BadName" = some (.ref (ea 0))
  n1 : mg "BadTeeth" = some (.ref (ea 1))
  n2 : mg "NameTaken" = some (.ref (ea 2))
  n3 : mg "BookFull" = some (.ref (ea 3))
  n4 : mg "NoComb" = some (.ref (ea 4))
  n5 : mg "BadTooth" = some (.ref (ea 5))
  n6 : mg "ToothThere" = some (.ref (ea 6))
  n7 : mg "FirstTooth" = some (.ref (ea 7))
  n8 : mg "ToothMissing" = some (.ref (ea 8))
  n9 : mg "DeedsFull" = some (.ref (ea 9))
  n10 : mg "NothingDone" = some (.ref (ea 10))
  n11 : mg "BadShape" = some (.ref (ea 11))
  n12 : mg "BadPlace" = some (.ref (ea 12))
  n13 : mg "BadLength" = some (.ref (ea 13))
  n14 : mg "NoFilling" = some (.ref (ea 14))
def spKind (K : PySem.W.Frag) (ea : Nat → Addr) : Addr → Value → Sp := fun e c vs H Q _ => vs = [.ref e] ∧ ∃ D j, c = .ref D ∧ KindF K ea D j ∧ ∀ p H', Same H H' → H p = none → H' p = some (.lst [.str (errName j)]) → Q (.ref p) H'
def kb (j i : Nat) : V := .bl (decide (i = j))
def kBools (j : Nat) : List V := (List.range 15).map (kb j)
theorem kBools_eq (j : Nat) : kBools j = [kb j 0, kb j 1, kb j 2, kb j 3, kb j 4, kb j 5, kb j 6, kb j 7, kb j 8, kb j 9, kb j 10, kb j 11, kb j 12, kb j 13, kb j 14] := rfl
def isJ (j : Nat) (v : V) : Bool := match v with
  | .int t => decide (t.toNat = j)
  | _ => false
def wordJ (v : V) : V := match v with
  | .int t => .str (errName t.toNat)
  | _ => .non
theorem kind_res {j : Nat} (h : j < 15) : (((List.range (15 : Int).toNat).map fun i => V.int (0 + ((i : Nat) : Int))).filter (isJ j)).map wordJ = [.str (errName j)] := by
  have all : ∀ j ∈ List.range 15, (((List.range (15 : Int).toNat).map fun i => V.int (0 + ((i : Nat) : Int))).filter (isJ j)).map wordJ = [.str (errName j)] := by decide +kernel
  exact all j (List.mem_range.mpr h)
theorem sc_kind : FnScope ["_law_e", "_law_is_one", "_law_words"] ["_law_e"] (defScope s_kind) := ⟨rfl, rfl, rfl, by decide +kernel, rfl, by decide +kernel, by decide +kernel⟩
theorem ok_kind (D : DefAt K mg "_law_kind" s_kind) (T : Bn mg) {ea : Nat → Addr} (EA : Ea mg ea) : HCallee P w K mg base "_law_kind" 1 ["_law_e"] (spKind K ea) := by
  have V_BadName := EA.n0
  have V_BadTeeth := EA.n1
  have V_NameTaken := EA.n2
  have V_BookFull := EA.n3
  have V_NoComb := EA.n4
  have V_BadTooth := EA.n5
  have V_ToothThere := EA.n6
  have V_FirstTooth := EA.n7
  have V_ToothMissing := EA.n8
  have V_DeedsFull := EA.n9
  have V_NothingDone := EA.n10
  have V_BadShape := EA.n11
  have V_BadPlace := EA.n12
  have V_BadLength := EA.n13
  have V_NoFilling := EA.n14
  refine D.hcalleeQ sc_kind (fun _ _ _ _ _ _ us hl => match us, hl with | [_], _ => rfl) (fun e c vs H Q E h => ?_) (fun f cdv A outer s H vs Q e oe c ws hc hd hq h => ?_)
  · obtain ⟨rfl, _⟩ := h
    rfl
  · obtain ⟨rfl, D, j, rfl, F, q⟩ := h
    have S := sc_kind
    have pin : (e, oe) ∈ (cxH P w K mg base ["_law_e", "_law_is_one", "_law_words"] "_law_kind" (defScope s_kind) f cdv A outer s H e oe).pn ∧ (oe.cls = .ref D ∧ oe.dict = none) ∧ ∃ vs, oe.data = .fields vs := ⟨List.mem_singleton.mpr rfl, hc, ws, hd⟩
    refine ⟨_, qss_cons (qs_set (i := 1) S.nd rfl (Or.inr rfl) (qe_lst (qa_cons (qe (pe_callB call_isx rfl T.n_isinstance boot_isinstance (pa_cons (pv 0) (pa_cons (pe_cls rfl V_BadName) pa_nil)))) (qa_cons (qe (pe_callB call_isx rfl T.n_isinstance boot_isinstance (pa_cons (pv 0) (pa_cons (pe_cls rfl V_BadTeeth) pa_nil)))) (qa_cons (qe (pe_callB call_isx rfl T.n_isinstance boot_isinstance (pa_cons (pv 0) (pa_cons (pe_cls rfl V_NameTaken) pa_nil)))) (qa_nil))))))
    (qss_cons (qs_set (i := 1) S.nd rfl (Or.inr rfl) (qe_op op_cat (qe (pv 1)) (qe_lst (qa_cons (qe (pe_callB call_isx rfl T.n_isinstance boot_isinstance (pa_cons (pv 0) (pa_cons (pe_cls rfl V_BookFull) pa_nil)))) (qa_cons (qe (pe_callB call_isx rfl T.n_isinstance boot_isinstance (pa_cons (pv 0) (pa_cons (pe_cls rfl V_NoComb) pa_nil)))) (qa_cons (qe (pe_callB call_isx rfl T.n_isinstance boot_isinstance (pa_cons (pv 0) (pa_cons (pe_cls rfl V_BadTooth) pa_nil)))) (qa_nil)))))))
    (qss_cons (qs_set (i := 1) S.nd rfl (Or.inr rfl) (qe_op op_cat (qe (pv 1)) (qe_lst (qa_cons (qe (pe_callB call_isx rfl T.n_isinstance boot_isinstance (pa_cons (pv 0) (pa_cons (pe_cls rfl V_ToothThere) pa_nil)))) (qa_cons (qe (pe_callB call_isx rfl T.n_isinstance boot_isinstance (pa_cons (pv 0) (pa_cons (pe_cls rfl V_FirstTooth) pa_nil)))) (qa_nil))))))
    (qss_cons (qs_set (i := 1) S.nd rfl (Or.inr rfl) (qe_op op_cat (qe (pv 1)) (qe_lst (qa_cons (qe (pe_callB call_isx rfl T.n_isinstance boot_isinstance (pa_cons (pv 0) (pa_cons (pe_cls rfl V_ToothMissing) pa_nil)))) (qa_cons (qe (pe_callB call_isx rfl T.n_isinstance boot_isinstance (pa_cons (pv 0) (pa_cons (pe_cls rfl V_DeedsFull) pa_nil)))) (qa_nil))))))
    (qss_cons (qs_set (i := 1) S.nd rfl (Or.inr rfl) (qe_op op_cat (qe (pv 1)) (qe_lst (qa_cons (qe (pe_callB call_isx rfl T.n_isinstance boot_isinstance (pa_cons (pv 0) (pa_cons (pe_cls rfl V_NothingDone) pa_nil)))) (qa_cons (qe (pe_callB call_isx rfl T.n_isinstance boot_isinstance (pa_cons (pv 0) (pa_cons (pe_cls rfl V_BadShape) pa_nil)))) (qa_nil))))))
    (qss_cons (qs_set (i := 1) S.nd rfl (Or.inr rfl) (qe_op op_cat (qe (pv 1)) (qe_lst (qa_cons (qe (pe_callB call_isx rfl T.n_isinstance boot_isinstance (pa_cons (pv 0) (pa_cons (pe_cls rfl V_BadPlace) pa_nil)))) (qa_cons (qe (pe_callB call_isx rfl T.n_isinstance boot_isinstance (pa_cons (pv 0) (pa_cons (pe_cls rfl V_BadLength) pa_nil)))) (qa_cons (qe (pe_callB call_isx rfl T.n_isinstance boot_isinstance (pa_cons (pv 0) (pa_cons (pe_cls rfl V_NoFilling) pa_nil)))) (qa_nil)))))))
    (qss_cons (qs_set (i := 2) S.nd rfl (Or.inr rfl) (qe_lst (qa_cons (qe (pe_str)) (qa_cons (qe (pe_str)) (qa_cons (qe (pe_str)) (qa_cons (qe (pe_str)) (qa_cons (qe (pe_str)) (qa_cons (qe (pe_str)) (qa_cons (qe (pe_str)) (qa_nil))))))))))
    (qss_cons (qs_set (i := 2) S.nd rfl (Or.inr rfl) (qe_op op_cat (qe (pv 2)) (qe_lst (qa_cons (qe (pe_str)) (qa_cons (qe (pe_str)) (qa_cons (qe (pe_str)) (qa_cons (qe (pe_str)) (qa_cons (qe (pe_str)) (qa_nil)))))))))
    (qss_cons (qs_set (i := 2) S.nd rfl (Or.inr rfl) (qe_op op_cat (qe (pv 2)) (qe_lst (qa_cons (qe (pe_str)) (qa_cons (qe (pe_str)) (qa_cons (qe (pe_str)) (qa_nil)))))))
    (qss_one (qs_ret (qe (pe_compq (own := ["_law_k"]) (caps := [(1, "_law_is_one"), (2, "_law_words")]) (QH e oe) (fun _ _ _ _ _ _ => hq.comp) ⟨rfl, rfl, rfl, rfl, ⟨⟨rfl, rfl, .inl rfl⟩, ⟨rfl, rfl, .inl rfl⟩, trivial⟩⟩ (pi_range1q rfl T.n_range (pa_cons (pe_int) pa_nil)) (fun _ _ _ _ _ _ => pg_name (i := 0) (nd_comp (by decide +kernel)) rfl (Or.inl rfl)) (fun _ _ _ _ _ _ => pts_one (pt_val (pe_ix (ix_list' K rfl) (pv 1) (pv 0) (fun _ _ => rfl)))) (fun _ _ _ _ _ _ => pe_ix (ix_list' K rfl) (pv 2) (pv 0) (fun _ _ => rfl)))))))))))))), ?_⟩
    have M : Same H H := Same.refl H
    refine ⟨_, rfl, _, _, D, oe, _, rfl, pin, F.cls, F.kit 0 (by decide), _, rfl, _, _, D, oe, _, rfl, pin, F.cls, F.kit 1 (by decide), _, rfl, _, _, D, oe, _, rfl, pin, F.cls, F.kit 2 (by decide), bigr rfl, fun a0 na => ?_⟩
    obtain ⟨M, e1⟩ := M.lstE (o := .lst [kb j 0, kb j 1, kb j 2]) na
    clear na
    refine ⟨_, rfl, _, rfl, _, _, D, oe, _, rfl, pin, F.cls, F.kit 3 (by decide), _, rfl, _, _, D, oe, _, rfl, pin, F.cls, F.kit 4 (by decide), _, rfl, _, _, D, oe, _, rfl, pin, F.cls, F.kit 5 (by decide), bigr rfl, fun a1 na => ?_⟩
    obtain ⟨M, e2⟩ := M.lstE (o := .lst [kb j 3, kb j 4, kb j 5]) na
    replace e1 := keepL (o := .lst [kb j 3, kb j 4, kb j 5]) e1 na
    clear na
    refine ⟨_, _, _, _, rfl, rfl, e1, e2, bigr rfl, fun c1 nc => ?_⟩
    obtain ⟨M, e1⟩ := M.lstE (o := .lst [kb j 0, kb j 1, kb j 2, kb j 3, kb j 4, kb j 5]) nc
    clear nc e2
    refine ⟨_, rfl, _, rfl, _, _, D, oe, _, rfl, pin, F.cls, F.kit 6 (by decide), _, rfl, _, _, D, oe, _, rfl, pin, F.cls, F.kit 7 (by decide), bigr rfl, fun a2 na => ?_⟩
    obtain ⟨M, e2⟩ := M.lstE (o := .lst [kb j 6, kb j 7]) na
    replace e1 := keepL (o := .lst [kb j 6, kb j 7]) e1 na
    clear na
    refine ⟨_, _, _, _, rfl, rfl, e1, e2, bigr rfl, fun c2 nc => ?_⟩
    obtain ⟨M, e1⟩ := M.lstE (o := .lst [kb j 0, kb j 1, kb j 2, kb j 3, kb j 4, kb j 5, kb j 6, kb j 7]) nc
    clear nc e2
    refine ⟨_, rfl, _, rfl, _, _, D, oe, _, rfl, pin, F.cls, F.kit 8 (by decide), _, rfl, _, _, D, oe, _, rfl, pin, F.cls, F.kit 9 (by decide), bigr rfl, fun a3 na => ?_⟩
    obtain ⟨M, e2⟩ := M.lstE (o := .lst [kb j 8, kb j 9]) na
    replace e1 := keepL (o := .lst [kb j 8, kb j 9]) e1 na
    clear na
    refine ⟨_, _, _, _, rfl, rfl, e1, e2, bigr rfl, fun c3 nc => ?_⟩
    obtain ⟨M, e1⟩ := M.lstE (o := .lst [kb j 0, kb j 1, kb j 2, kb j 3, kb j 4, kb j 5, kb j 6, kb j 7, kb j 8, kb j 9]) nc
    clear nc e2
    refine ⟨_, rfl, _, rfl, _, _, D, oe, _, rfl, pin, F.cls, F.kit 10 (by decide), _, rfl, _, _, D, oe, _, rfl, pin, F.cls, F.kit 11 (by decide), bigr rfl, fun a4 na => ?_⟩
    obtain ⟨M, e2⟩ := M.lstE (o := .lst [kb j 10, kb j 11]) na
    replace e1 := keepL (o := .lst [kb j 10, kb j 11]) e1 na
    clear na
    refine ⟨_, _, _, _, rfl, rfl, e1, e2, bigr rfl, fun c4 nc => ?_⟩
    obtain ⟨M, e1⟩ := M.lstE (o := .lst [kb j 0, kb j 1, kb j 2, kb j 3, kb j 4, kb j 5, kb j 6, kb j 7, kb j 8, kb j 9, kb j 10, kb j 11]) nc
    clear nc e2
    refine ⟨_, rfl, _, rfl, _, _, D, oe, _, rfl, pin, F.cls, F.kit 12 (by decide), _, rfl, _, _, D, oe, _, rfl, pin, F.cls, F.kit 13 (by decide), _, rfl, _, _, D, oe, _, rfl, pin, F.cls, F.kit 14 (by decide), bigr rfl, fun a5 na => ?_⟩
    obtain ⟨M, e2⟩ := M.lstE (o := .lst [kb j 12, kb j 13, kb j 14]) na
    replace e1 := keepL (o := .lst [kb j 12, kb j 13, kb j 14]) e1 na
    clear na
    refine ⟨_, _, _, _, rfl, rfl, e1, e2, bigr rfl, fun c5 nc => ?_⟩
    obtain ⟨M, e1⟩ := M.lstE (o := .lst [kb j 0, kb j 1, kb j 2, kb j 3, kb j 4, kb j 5, kb j 6, kb j 7, kb j 8, kb j 9, kb j 10, kb j 11, kb j 12, kb j 13, kb j 14]) nc
    clear nc e2
    refine ⟨bigr rfl, fun w0 nw => ?_⟩
    obtain ⟨M, f1⟩ := M.lstE (o := .lst [V.str (Str.ofString "BadName"), V.str (Str.ofString "BadTeeth"), V.str (Str.ofString "NameTaken"), V.str (Str.ofString "BookFull"), V.str (Str.ofString "NoComb"), V.str (Str.ofString "BadTooth"), V.str (Str.ofString "ToothThere")]) nw
    replace e1 := keepL (o := .lst [V.str (Str.ofString "BadName"), V.str (Str.ofString "BadTeeth"), V.str (Str.ofString "NameTaken"), V.str (Str.ofString "BookFull"), V.str (Str.ofString "NoComb"), V.str (Str.ofString "BadTooth"), V.str (Str.ofString "ToothThere")]) e1 nw
    clear nw
    refine ⟨_, rfl, bigr rfl, fun w1 nw => ?_⟩
    obtain ⟨M, f2⟩ := M.lstE (o := .lst [V.str (Str.ofString "FirstTooth"), V.str (Str.ofString "ToothMissing"), V.str (Str.ofString "DeedsFull"), V.str (Str.ofString "NothingDone"), V.str (Str.ofString "BadShape")]) nw
    replace e1 := keepL (o := .lst [V.str (Str.ofString "FirstTooth"), V.str (Str.ofString "ToothMissing"), V.str (Str.ofString "DeedsFull"), V.str (Str.ofString "NothingDone"), V.str (Str.ofString "BadShape")]) e1 nw
    replace f1 := keepL (o := .lst [V.str (Str.ofString "FirstTooth"), V.str (Str.ofString "ToothMissing"), V.str (Str.ofString "DeedsFull"), V.str (Str.ofString "NothingDone"), V.str (Str.ofString "BadShape")]) f1 nw
    clear nw
    refine ⟨_, _, _, _, rfl, rfl, f1, f2, bigr rfl, fun x1 nx => ?_⟩
    obtain ⟨M, f1⟩ := M.lstE (o := .lst [V.str (Str.ofString "BadName"), V.str (Str.ofString "BadTeeth"), V.str (Str.ofString "NameTaken"), V.str (Str.ofString "BookFull"), V.str (Str.ofString "NoComb"), V.str (Str.ofString "BadTooth"), V.str (Str.ofString "ToothThere"), V.str (Str.ofString "FirstTooth"), V.str (Str.ofString "ToothMissing"), V.str (Str.ofString "DeedsFull"), V.str (Str.ofString "NothingDone"), V.str (Str.ofString "BadShape")]) nx
    replace e1 := keepL (o := .lst [V.str (Str.ofString "BadName"), V.str (Str.ofString "BadTeeth"), V.str (Str.ofString "NameTaken"), V.str (Str.ofString "BookFull"), V.str (Str.ofString "NoComb"), V.str (Str.ofString "BadTooth"), V.str (Str.ofString "ToothThere"), V.str (Str.ofString "FirstTooth"), V.str (Str.ofString "ToothMissing"), V.str (Str.ofString "DeedsFull"), V.str (Str.ofString "NothingDone"), V.str (Str.ofString "BadShape")]) e1 nx
    clear nx f2
    refine ⟨_, rfl, bigr rfl, fun w2 nw => ?_⟩
    obtain ⟨M, f2⟩ := M.lstE (o := .lst [V.str (Str.ofString "BadPlace"), V.str (Str.ofString "BadLength"), V.str (Str.ofString "NoFilling")]) nw
    replace e1 := keepL (o := .lst [V.str (Str.ofString "BadPlace"), V.str (Str.ofString "BadLength"), V.str (Str.ofString "NoFilling")]) e1 nw
    replace f1 := keepL (o := .lst [V.str (Str.ofString "BadPlace"), V.str (Str.ofString "BadLength"), V.str (Str.ofString "NoFilling")]) f1 nw
    clear nw
    refine ⟨_, _, _, _, rfl, rfl, f1, f2, bigr rfl, fun x2 nx => ?_⟩
    obtain ⟨M, f1⟩ := M.lstE (o := .lst [V.str (Str.ofString "BadName"), V.str (Str.ofString "BadTeeth"), V.str (Str.ofString "NameTaken"), V.str (Str.ofString "BookFull"), V.str (Str.ofString "NoComb"), V.str (Str.ofString "BadTooth"), V.str (Str.ofString "ToothThere"), V.str (Str.ofString "FirstTooth"), V.str (Str.ofString "ToothMissing"), V.str (Str.ofString "DeedsFull"), V.str (Str.ofString "NothingDone"), V.str (Str.ofString "BadShape"), V.str (Str.ofString "BadPlace"), V.str (Str.ofString "BadLength"), V.str (Str.ofString "NoFilling")]) nx
    replace e1 := keepL (o := .lst [V.str (Str.ofString "BadName"), V.str (Str.ofString "BadTeeth"), V.str (Str.ofString "NameTaken"), V.str (Str.ofString "BookFull"), V.str (Str.ofString "NoComb"), V.str (Str.ofString "BadTooth"), V.str (Str.ofString "ToothThere"), V.str (Str.ofString "FirstTooth"), V.str (Str.ofString "ToothMissing"), V.str (Str.ofString "DeedsFull"), V.str (Str.ofString "NothingDone"), V.str (Str.ofString "BadShape"), V.str (Str.ofString "BadPlace"), V.str (Str.ofString "BadLength"), V.str (Str.ofString "NoFilling")]) e1 nx
    clear nx f2
    refine ⟨_, rfl, by decide, by decide, fun Dc hD => ?_⟩
    refine comp_s (capv := [some (.ref c5), some (.ref x2)]) (by rfl) (gives_range 0 (15 : Int).toNat) (bigr rfl) hD ?_ (isJ j) wordJ ?_ ?_ ?_
    · exact fun _ _ => trivial
    · intro v hv H' R s' h
      obtain ⟨t, ht, rfl⟩ := List.mem_map.mp hv
      have ht15 : t < 15 := List.mem_range.mp ht
      refine ⟨_, rfl, _, rfl, _, _, _, _, rfl, rfl, SqL.of (s' _ _ e1), (?_ : atI (kBools j) (0 + ((t : Nat) : Int)) = some (kb j t)), _, rfl, ?_⟩
      · rw [Int.zero_add]
        refine atI_nat ?_
        unfold kBools
        rw [List.getElem?_map, List.getElem?_range ht15]
        rfl
      · have e : isJ j (.int (0 + ((t : Nat) : Int))) = decide (t = j) := by
          show decide ((0 + ((t : Nat) : Int)).toNat = j) = _
          rw [Int.zero_add, Int.toNat_natCast]
        have h := h H' (Same.refl _)
        rw [e] at h
        exact h
    · intro v hv hp H' R s' h
      obtain ⟨t, ht, rfl⟩ := List.mem_map.mp hv
      have ht15 : t < 15 := List.mem_range.mp ht
      refine ⟨_, rfl, _, rfl, _, _, _, _, rfl, rfl, SqL.of (s' _ _ f1), (?_ : atI (errNames.map V.str) (0 + ((t : Nat) : Int)) = some (wordJ (.int (0 + ((t : Nat) : Int))))), h H' (Same.refl _)⟩
      rw [Int.zero_add]
      refine atI_nat ?_
      have hl : t < errNames.length := ht15
      show (errNames.map V.str)[t]? = some (.str (errName ((t : Nat) : Int).toNat))
      rw [List.getElem?_map, List.getElem?_eq_getElem hl, Int.toNat_natCast]
      unfold errName
      rw [List.getD_eq_getElem?_getD, List.getElem?_eq_getElem hl]
      rfl
    · intro H' s' e
      rw [kind_res F.lt] at e
      exact q _ H' (M.trans s') (M.free hD) e
--CUT--
theorem lt_one {a b : Nat} : ([a] < [b]) ↔ a < b := by
  rw [List.cons_lt_cons_iff]
  simp
theorem le_a (c : Nat) : (!decide ((⟨#[c]⟩ : Str).cps.toList < (Str.ofString "a").cps.toList)) = decide (97 ≤ c) := by
  have e : (Str.ofString "a").cps.toList = [97] := by decide +kernel
  rw [e]
  show (!decide ([c] < [97])) = _
  rw [Bool.eq_iff_iff]
  simp only [Bool.not_eq_true', decide_eq_false_iff_not, decide_eq_true_eq, lt_one]
  omega
theorem le_z (c : Nat) : (!decide ((Str.ofString "z").cps.toList < (⟨#[c]⟩ : Str).cps.toList)) = decide (c ≤ 122) := by
  have e : (Str.ofString "z").cps.toList = [122] := by decide +kernel
  rw [e]
  show (!decide ([122] < [c])) = _
  rw [Bool.eq_iff_iff]
  simp only [Bool.not_eq_true', decide_eq_false_iff_not, decide_eq_true_eq, lt_one]
  omega
def sp_small : Sp := fun vs H Q _ => ∃ c : Nat, vs = [sgn c] ∧ Q (.bl (small c)) H
theorem sc_is_small_letter : FnScope ["sign"] ["sign"] (defScope s_is_small_letter) := ⟨rfl, rfl, rfl, by decide +kernel, rfl, by decide +kernel, by decide +kernel⟩
theorem ok_small (D : DefAt K mg "is_small_letter" s_is_small_letter) (T : Bn mg) : Callee P w K mg base "is_small_letter" 1 ["sign"] sp_small := by
  refine D.callee sc_is_small_letter (fun _ _ _ _ _ _ us hl => match us, hl with | [_], _ => rfl) (fun vs H Q E h => ?_) (fun f cdv A outer s H vs Q E hr h => ?_)
  · obtain ⟨c, rfl, _⟩ := h
    rfl
  · obtain ⟨c, rfl, q⟩ := h
    have S := sc_is_small_letter
    refine ⟨_, pss_one (ps_ret (pe_chain op_le_str op_le_str (pe_str) (pv 0) (pe_str))), ?_⟩
    refine ⟨_, rfl, _, _, rfl, rfl, _, rfl, ?_⟩
    rw [le_a]
    have q' : Q (.bl (decide (97 ≤ c) && decide (c ≤ 122))) H := q
    cases e : decide (97 ≤ c) with
    | false =>
      rw [if_neg Bool.false_ne_true]
      rw [e] at q'
      exact q'
    | true =>
      rw [if_pos rfl]
      refine ⟨_, _, rfl, rfl, ?_⟩
      rw [le_z]
      rw [e] at q'
      exact q'
def sp_name : Sp := fun vs H Q _ => ∃ x : Str, vs = [.str x] ∧ x.length ≤ sizeLine ∧ ∀ H', Same H H' → Q (.bl (isName x)) H'
theorem sc_is_name : FnScope ["text"] ["text"] (defScope s_is_name) := ⟨rfl, rfl, rfl, by decide +kernel, rfl, by decide +kernel, by decide +kernel⟩
theorem ok_name (D : DefAt K mg "is_name" s_is_name) (T : Bn mg) (V_MOST_NAME : ∃ t, mg "MOST_NAME" = some (.int 6 t)) (C_is_small_letter : Callee P w K mg base "is_small_letter" 1 ["sign"] sp_small) : Callee P w K mg base "is_name" 2 ["text"] sp_name := by
  refine D.callee sc_is_name (fun _ _ _ _ _ _ us hl => match us, hl with | [_], _ => rfl) (fun vs H Q E h => ?_) (fun f cdv A outer s H vs Q E hr h => ?_)
  · obtain ⟨c, rfl, _⟩ := h
    rfl
  · obtain ⟨x, rfl, hx, q⟩ := h
    have S := sc_is_name
    refine ⟨_, pss_cons (ps_if (pt_not (pt_chain op_le op_le (pe_int) (pe_callB call_len_str rfl T.n_len PySem.boot_len (pa_cons (pv 0) pa_nil)) (pe_gint rfl V_MOST_NAME)))
      (pss_one (ps_ret (pe_bl)))
      (pss_nil))
    (pss_one (ps_ret (pe_callB (call_all rfl) rfl T.n_all boot_all (pa_cons (pe_comp (own := ["sign"]) (caps := []) rfl ⟨rfl, rfl, rfl, rfl, trivial⟩ (pi_str (pv 0)) (fun _ _ _ _ _ _ => pg_name (i := 0) (nd_comp (by decide +kernel)) rfl (Or.inl rfl)) (fun _ _ _ _ _ _ => pts_nil) (fun _ _ _ _ _ _ => pe_fn C_is_small_letter (hr.mono (by decide)) rfl (pa_cons (pv 0) pa_nil))) pa_nil)))), ?_⟩
    have fin : ∀ H', Same H H' → (decide (1 ≤ x.length) && decide (x.length ≤ 6)) = false → Q (.bl false) H' := fun H' s' e => by
      have := q H' s'
      unfold isName at this
      rw [e] at this
      exact this
    refine ⟨_, rfl, _, rfl, hx, _, _, rfl, rfl, _, rfl, ?_⟩
    refine ite2 (fun h1 => ?_) (fun h1 => ?_)
    · refine ⟨_, _, rfl, rfl, _, rfl, ?_⟩
      refine ite2 (fun h2 => ?_) (fun h2 => ?_)
      · refine fin H (Same.refl H) ?_
        have : ¬ (x.length : Int) ≤ 6 := by simpa using h2
        rw [Bool.and_eq_false_iff]
        exact .inr (decide_eq_false (by omega))
      · refine ⟨_, rfl, _, rfl, fun D hD => ?_⟩
        refine comp_s (capv := []) (L := x.cps.toList.map sgn) (by rfl) (gives_str x) (by rw [List.length_map, txt_len]; exact hx) hD ?_ (fun _ => true) (fun v => match v with | .str y => .bl (small (y.cps.getD 0 0)) | _ => .non) ?_ ?_ ?_
        · exact fun _ _ => trivial
        · exact fun v hv H' R s' h => h H' (Same.refl _)
        · intro v hv _ H' R s' h
          obtain ⟨c, hc, rfl⟩ := List.mem_map.mp hv
          exact ⟨_, rfl, c, rfl, h H' (Same.refl _)⟩
        · intro H' s' e
          refine ⟨_, x.cps.toList.map small, rfl, ?_, ?_⟩
          · refine SqL.of ?_
            rw [e]
            congr 2
            rw [List.filter_eq_self.mpr (fun _ _ => rfl), List.map_map, List.map_map]
            rfl
          · have := q H' s'
            unfold isName at this
            have h3 : ¬ ¬ (x.length : Int) ≤ 6 := by simpa using h2
            have h1' : (1 : Int) ≤ x.length := by simpa using h1
            rw [decide_eq_true (show 1 ≤ x.length by omega), decide_eq_true (show x.length ≤ 6 by omega)] at this
            rw [List.all_map]
            exact this
    · refine ⟨_, rfl, ?_⟩
      refine fin H (Same.refl H) ?_
      have h1' : ¬ (1 : Int) ≤ x.length := by simpa using h1
      rw [Bool.and_eq_false_iff]
      exact .inl (decide_eq_false (by omega))
def sp_teeth (K : PySem.W.Frag) : Sp := fun vs H Q _ => ∃ (a : Addr) (ts : List Int), vs = [.ref a] ∧ SqL K H a (ts.map V.int) ∧ ts.length ≤ 1000 ∧ ∀ H', Same H H' → Q (.bl (areTeeth ts)) H'
theorem sc_are_teeth : FnScope ["teeth"] ["teeth"] (defScope s_are_teeth) := ⟨rfl, rfl, rfl, by decide +kernel, rfl, by decide +kernel, by decide +kernel⟩
theorem ok_teeth (D : DefAt K mg "are_teeth" s_are_teeth) (T : Bn mg) (V_MOST_TOOTH : ∃ t, mg "MOST_TOOTH" = some (.int 7 t)) : Callee P w K mg base "are_teeth" 1 ["teeth"] (sp_teeth K) := by
  refine D.callee sc_are_teeth (fun _ _ _ _ _ _ us hl => match us, hl with | [_], _ => rfl) (fun vs H Q E h => ?_) (fun f cdv A outer s H vs Q E hr h => ?_)
  · obtain ⟨a, ts, rfl, _⟩ := h
    rfl
  · obtain ⟨a, ts, rfl, ha, hl, q⟩ := h
    have S := sc_are_teeth
    unfold areTeeth at q
    refine ⟨_, pss_cons (ps_if (pt_cmpR op_notIn_seq (pe_int) (pv 0) (by with_unfolding_all rfl))
      (pss_one (ps_ret (pe_bl)))
      (pss_nil))
    (pss_cons (ps_if (pt_cmpR op_ne (pe_callB call_lenS rfl T.n_len PySem.boot_len (pa_cons (pe_callTy (call_set1 rfl) rfl T.n_set boot_set (pa_cons (pv 0) pa_nil)) pa_nil)) (pe_callB call_len_seq rfl T.n_len PySem.boot_len (pa_cons (pv 0) pa_nil)) (nomark _))
      (pss_one (ps_ret (pe_bl)))
      (pss_nil))
    (pss_one (ps_ret (pe_callB (call_all rfl) rfl T.n_all boot_all (pa_cons (pe_comp (own := ["tooth"]) (caps := []) rfl ⟨rfl, rfl, rfl, rfl, trivial⟩ (pi_list (pv 0)) (fun _ _ _ _ _ _ => pg_name (i := 0) (nd_comp (by decide +kernel)) rfl (Or.inl rfl)) (fun _ _ _ _ _ _ => pts_nil) (fun _ _ _ _ _ _ => pe_chain op_le op_le (pe_int) (pv 0) (pe_gint rfl V_MOST_TOOTH))) pa_nil))))), ?_⟩
    refine ⟨_, rfl, _, _, rfl, .inl ha, rfl, flats ts, _, rfl, ?_⟩
    rw [if_pos rfl, in_zero]
    refine ite2 (fun hc => ?_) (fun hc => ?_)
    · have h0 : decide (0 ∈ ts) = false := by simpa using hc
      rw [h0] at q
      exact q H (Same.refl H)
    · have h0 : decide (0 ∈ ts) = true := by simpa using hc
      rw [h0, Bool.true_and] at q
      refine ⟨_, rfl, _, ts, rfl, ha, ?_, fun p np => ?_⟩
      · show ts.length + 1 < 4096
        omega
      have s1 : Same H (upd H p (.set (fun k => (firstMet (fun i => ts.getD i 0) ts.length).any (· == k)) (many ts))) := Same.new np
      refine ⟨_, _, _, rfl, upd_same, _, rfl, _, _, rfl, .inl (s1.seq ha), rfl, _, rfl, ?_⟩
      rw [List.length_map]
      refine ite2 (fun hm => ?_) (fun hm => ?_)
      · have h1 : ¬ many ts = ts.length := fun z => by simp [z] at hm
        rw [decide_eq_false h1, Bool.false_and] at q
        exact q _ s1
      · have h1 : many ts = ts.length := by
          have : (many ts : Int) = (ts.length : Int) := by simpa using hm
          omega
        rw [decide_eq_true h1, Bool.true_and] at q
        refine ⟨_, rfl, _, rfl, ⟨_, s1.seq ha⟩, fun D hD => ?_⟩
        refine comp_s (capv := []) (L := ts.map V.int) (by rfl) (gives_list K a (ts.map V.int)) (by rw [List.length_map]; exact big hl) hD ?_ (fun _ => true) (fun v => match v with | .int t => .bl (inR t) | _ => .non) ?_ ?_ ?_
        · exact fun H' s' => (s1.trans s').seq ha
        · exact fun v hv H' R s' h => h H' (Same.refl _)
        · intro v hv _ H' R s' h
          obtain ⟨t, ht, rfl⟩ := List.mem_map.mp hv
          have h := h H' (Same.refl _)
          have h : R (.bl (decide (0 ≤ t) && decide (t ≤ 7))) H' := h
          refine ⟨_, rfl, _, _, rfl, rfl, _, rfl, ?_⟩
          cases e : decide (0 ≤ t) with
          | false =>
            rw [e] at h
            exact iteF h
          | true =>
            rw [e] at h
            exact iteT ⟨_, _, rfl, rfl, h⟩
        · intro H' s' e
          refine ⟨_, ts.map inR, rfl, ?_, ?_⟩
          · refine SqL.of ?_
            rw [e]
            congr 2
            rw [List.filter_eq_self.mpr (fun _ _ => rfl), List.map_map, List.map_map]
            rfl
          · have := q H' (s1.trans s')
            rw [List.all_map]
            exact this
/-! ### the book -/
theorem lk_combs {d l : V} : ([("combs", d), ("past", l)] : List (Str × V)).lookup (Str.ofString "combs") = some d := rfl
theorem lk_past {d l : V} : ([("combs", d), ("past", l)] : List (Str × V)).lookup (Str.ofString "past") = some l := rfl
theorem putF_combs {y d l : V} : putF (Str.ofString "combs") y [("combs", d), ("past", l)] = [(Str.ofString "combs", y), (Str.ofString "past", l)] := by
  unfold putF
  rw [if_pos rfl]
theorem putF_new {y : V} : putF (Str.ofString "combs") y [] = [(Str.ofString "combs", y)] := rfl
theorem putF_past {y d : V} : putF (Str.ofString "past") y [("combs", d)] = [(Str.ofString "combs", d), (Str.ofString "past", y)] := by
  have h : ¬ (Str.ofString "combs" = Str.ofString "past") := by decide +kernel
  unfold putF
  rw [if_neg h]
  rfl
theorem two_len {a b : Str × V} : [a, b].length < 1000 := show 2 < 1000 by decide
def sp_check (ea : Nat → Addr) (C : Addr) : Sp := fun vs H Q E => ∃ b l G cs past x, vs = [.ref b, .str x] ∧ Bk C G H b l cs past ∧ (if (cGet cs x).isSome = true then Q .non H else E (.ref (ea 4)) none H)
theorem sc_Book_check_comb : FnScope ["self", "name"] ["self", "name"] (defScope s_Book_check_comb) := ⟨rfl, rfl, rfl, by decide +kernel, rfl, by decide +kernel, by decide +kernel⟩
theorem ok_check {ea : Nat → Addr} {C : Addr} (D : MethAt K C "Book" "check_comb" s_Book_check_comb) (T : Bn mg) (BA : BookAt K C) (O_NoComb : Err K mg "NoComb" (ea 4)) : Method P w K mg base C "check_comb" (CX1 P w) 1 ["self", "name"] (sp_check ea C) := by
  refine D.meth1 sc_Book_check_comb (fun _ _ _ _ _ _ us hl => match us, hl with | [_, _], _ => rfl) (fun vs H Q E h => ?_) (fun f cdv A outer s H vs Q E hr h => ?_)
  · obtain ⟨b, l, G, cs, past, x, rfl, _⟩ := h
    rfl
  · obtain ⟨b, l, G, cs, past, x, rfl, B, q⟩ := h
    have S := sc_Book_check_comb
    have hu := hu_of hr
    obtain ⟨dx, d, hb, gd, kvs, hd, kr⟩ := B.ins
    refine ⟨_, pss_one (ps_if (pt_cmp (pc_dnotin hu (pv 1) (pe_fld (pv 0) rfl)))
      (pss_one (ps_raise O_NoComb rfl (pa_cons (pe_str) pa_nil)))
      (pss_nil)), ?_⟩
    refine ⟨_, rfl, _, rfl, _, _, _, _, _, rfl, hb, BA.cls, BA.nc, lk_combs, d, _, rfl, DGet.k (k := Sum.inr x) hd, _, rfl, ?_⟩
    rw [kr.some]
    cases e : (cGet cs x).isSome with
    | false =>
      rw [e] at q
      exact iteT ⟨bigr rfl, q⟩
    | true =>
      rw [e] at q
      exact iteF q
def sp_do (ea : Nat → Addr) (C : Addr) : Sp := fun vs H Q E => ∃ b l G cs past d D cs', vs = [.ref b, .ref d] ∧ Bk C G H b l cs past ∧ DictR D H d cs' ∧ Good cs' ∧ (∀ x, D x → x ≠ b ∧ x ≠ l ∧ H x ≠ none) ∧
  (if 300 ≤ past.length then E (.ref (ea 9)) none H else ∀ H', (∀ a, a ≠ b → a ≠ l → H' a = H a) → Bk C (fun a => G a ∨ D a) H' b l cs' (past ++ [cs]) → Q (.int ((past.length : Int) + 1)) H')
theorem sc_Book_do_deed : FnScope ["self", "combs"] ["self", "combs"] (defScope s_Book_do_deed) := ⟨rfl, rfl, rfl, by decide +kernel, rfl, by decide +kernel, by decide +kernel⟩
theorem ok_do {ea : Nat → Addr} {C : Addr} (D : MethAt K C "Book" "do_deed" s_Book_do_deed) (T : Bn mg) (BA : BookAt K C) (V_MOST_DEEDS : ∃ t, mg "MOST_DEEDS" = some (.int 300 t)) (O_DeedsFull : Err K mg "DeedsFull" (ea 9)) : Method P w K mg base C "do_deed" (CX1 P w) 1 ["self", "combs"] (sp_do ea C) := by
  refine D.meth1 sc_Book_do_deed (fun _ _ _ _ _ _ us hl => match us, hl with | [_, _], _ => rfl) (fun vs H Q E h => ?_) (fun f cdv A outer s H vs Q E hr h => ?_)
  · obtain ⟨b, l, G, cs, past, d, D, cs', rfl, _⟩ := h
    rfl
  · obtain ⟨b, l, G, cs, past, d1, Dd, cs', rfl, B, dr, gd', nD, q⟩ := h
    have S := sc_Book_do_deed
    have hu := hu_of hr
    obtain ⟨dx, d, hb, dr0⟩ := B.ins
    obtain ⟨vs, hl, pr⟩ := B.lst
    have hlen := pr.length
    have hbl : b ≠ l := ne_of hb hl (by intro z; cases z)
    refine ⟨_, pss_cons (ps_if (pt_cmpR op_ge (pe_callB call_len_seq rfl T.n_len PySem.boot_len (pa_cons (pe_fld (pv 0) rfl) pa_nil)) (pe_gint rfl V_MOST_DEEDS) (nomark _))
      (pss_one (ps_raise O_DeedsFull rfl (pa_cons (pe_str) pa_nil)))
      (pss_nil))
    (pss_cons (ps_expr (pe_bm PySem.F.plainAttrs_list PySem.F.slot_list_append PySem.F.type_list_append mt_append (pe_fld (pv 0) rfl) (pa_cons (pe_fld (pv 0) rfl) pa_nil)))
    (pss_cons (ps_fld (pv 0) (pv 1) rfl)
    (pss_one (ps_ret (pe_callB call_len_seq rfl T.n_len PySem.boot_len (pa_cons (pe_fld (pv 0) rfl) pa_nil)))))), ?_⟩
    refine ⟨_, rfl, _, _, _, _, _, rfl, hb, BA.cls, BA.np, lk_past, _, _, rfl, .inl (SqL.of hl), _, _, rfl, rfl, _, rfl, ?_⟩
    refine ite2 (fun hc => ?_) (fun hc => ?_)
    · have h300 : 300 ≤ past.length := by
        have : (300 : Int) ≤ (vs.length : Int) := by simpa using hc
        omega
      rw [if_pos h300] at q
      exact ⟨bigr rfl, q⟩
    · have h300 : ¬ 300 ≤ past.length := by
        have : ¬ (300 : Int) ≤ (vs.length : Int) := by simpa using hc
        omega
      rw [if_neg h300] at q
      refine ⟨_, rfl, _, _, _, _, _, rfl, hb, BA.cls, BA.np, lk_past, .inl ⟨rfl, _, SqL.of hl⟩, _, rfl, _, _, _, _, _, rfl, hb, BA.cls, BA.nc, lk_combs, _, _, _, rfl, rfl, hl, ?_, ?_⟩
      · exact Nat.lt_of_lt_of_le (by omega : vs.length < 1000) sizeBig
      have hb1 : upd H l (.lst (vs ++ [.ref d])) b = some (.ins C dx [("combs", .ref d), ("past", .ref l)]) := by rw [upd_ne hbl]; exact hb
      refine ⟨_, rfl, _, rfl, _, _, _, _, rfl, hb1, BA.cls, BA.nc, two_len, ?_⟩
      rw [putF_combs]
      have hb2 : upd (upd H l (.lst (vs ++ [.ref d]))) b (.ins C dx [("combs", .ref d1), ("past", .ref l)]) b = some (.ins C dx [("combs", .ref d1), ("past", .ref l)]) := upd_same
      have hl2 : upd (upd H l (.lst (vs ++ [.ref d]))) b (.ins C dx [("combs", .ref d1), ("past", .ref l)]) l = some (.lst (vs ++ [.ref d])) := by rw [upd_ne (Ne.symm hbl), upd_same]
      have off : ∀ a, a ≠ b → a ≠ l → upd (upd H l (.lst (vs ++ [.ref d]))) b (.ins C dx [("combs", .ref d1), ("past", .ref l)]) a = H a := fun a n1 n2 => by rw [upd_ne n1, upd_ne n2]
      generalize upd (upd H l (.lst (vs ++ [.ref d]))) b (.ins C dx [("combs", .ref d1), ("past", .ref l)]) = H2 at hb2 hl2 off
      refine ⟨_, rfl, _, _, _, _, _, rfl, hb2, BA.cls, BA.np, lk_past, _, _, rfl, .inl (SqL.of hl2), ?_⟩
      rw [List.length_append, List.length_singleton, hlen]
      have sG : ∀ a o, G a → H a = some o → H2 a = some o := fun a o g e => (off a (fun z => B.nb (z ▸ g)) (fun z => B.nl (z ▸ g))).trans e
      have sD : ∀ a o, Dd a → H a = some o → H2 a = some o := fun a o g e => (off a (nD a g).1 (nD a g).2.1).trans e
      refine q H2 off ⟨?_, ?_, ?_, ⟨dx, d1, hb2, dr.mono sD fun _ g => .inr g⟩, ⟨_, hl2, ?_⟩, gd', ?_, ?_⟩
      · rintro x (g | g)
        · rw [off x (fun z => B.nb (z ▸ g)) (fun z => B.nl (z ▸ g))]; exact B.live x g
        · rw [off x (nD x g).1 (nD x g).2.1]; exact (nD x g).2.2
      · rintro (g | g)
        · exact B.nb g
        · exact (nD b g).1 rfl
      · rintro (g | g)
        · exact B.nl g
        · exact (nD l g).2.1 rfl
      · exact Paired.snoc (Paired.mono (fun _ _ ⟨d, e, r⟩ => ⟨d, e, r.mono sG fun _ g => .inl g⟩) pr) ⟨d, rfl, dr0.mono sG fun _ g => .inl g⟩
      · intro p hp
        rcases List.mem_append.mp hp with z | z
        · exact B.goods p z
        · rw [List.mem_singleton.mp z]; exact B.good
      · rw [List.length_append, List.length_singleton]; omega
def sp_deeds (C : Addr) : Sp := fun vs H Q _ => ∃ b l G cs past, vs = [.ref b] ∧ Bk C G H b l cs past ∧ Q (.int (past.length : Int)) H
theorem sc_Book_deeds : FnScope ["self"] ["self"] (defScope s_Book_deeds) := ⟨rfl, rfl, rfl, by decide +kernel, rfl, by decide +kernel, by decide +kernel⟩
theorem ok_deeds {C : Addr} (D : MethAt K C "Book" "deeds" s_Book_deeds) (T : Bn mg) (BA : BookAt K C) : Method P w K mg base C "deeds" CX0 1 ["self"] (sp_deeds C) := by
  refine D.meth0 sc_Book_deeds (fun _ _ _ _ _ _ us hl => match us, hl with | [_], _ => rfl) (fun vs H Q E h => ?_) (fun f cdv A outer s H vs Q E hr h => ?_)
  · obtain ⟨b, l, G, cs, past, rfl, _⟩ := h
    rfl
  · obtain ⟨b, l, G, cs, past, rfl, B, q⟩ := h
    have S := sc_Book_deeds
    obtain ⟨dx, d, hb, dr0⟩ := B.ins
    obtain ⟨vs, hl, pr⟩ := B.lst
    refine ⟨_, pss_one (ps_ret (pe_callB call_len_seq rfl T.n_len PySem.boot_len (pa_cons (pe_fld (pv 0) rfl) pa_nil))), ?_⟩
    refine ⟨_, rfl, _, _, _, _, _, rfl, hb, BA.cls, BA.np, lk_past, _, _, rfl, .inl (SqL.of hl), ?_⟩
    rw [pr.length]
    exact q
def sp_names (C : Addr) : Sp := fun vs H Q _ => ∃ b l G cs past, vs = [.ref b] ∧ Bk C G H b l cs past ∧ ∀ p (nm : List Str), H p = none → nm.Perm (cs.map (·.1)) → sortedS nm = true → Q (.ref p) (upd H p (.lst (nm.map V.str)))
theorem sc_Book_names : FnScope ["self"] ["self"] (defScope s_Book_names) := ⟨rfl, rfl, rfl, by decide +kernel, rfl, by decide +kernel, by decide +kernel⟩
theorem ok_names {C : Addr} (D : MethAt K C "Book" "names" s_Book_names) (T : Bn mg) (BA : BookAt K C) : Method P w K mg base C "names" CX0 1 ["self"] (sp_names C) := by
  refine D.meth0 sc_Book_names (fun _ _ _ _ _ _ us hl => match us, hl with | [_], _ => rfl) (fun vs H Q E h => ?_) (fun f cdv A outer s H vs Q E hr h => ?_)
  · obtain ⟨b, l, G, cs, past, rfl, _⟩ := h
    rfl
  · obtain ⟨b, l, G, cs, past, rfl, B, q⟩ := h
    have S := sc_Book_names
    obtain ⟨dx, d, hb, gd, kvs, hd, kr⟩ := B.ins
    refine ⟨_, pss_one (ps_ret (pe_callB (call_sortedD rfl) rfl T.n_sorted boot_sorted (pa_cons (pe_fld (pv 0) rfl) pa_nil))), ?_⟩
    refine ⟨_, rfl, _, _, _, _, _, rfl, hb, BA.cls, BA.nc, lk_combs, d, kvs, cs.map (·.1), rfl, .inl hd, kr.keys, ?_, q⟩
    rw [List.length_map]
    have := B.good.len
    omega
def sp_bteeth (ea : Nat → Addr) (C : Addr) : Sp := fun vs H Q E => ∃ b l G cs past x, vs = [.ref b, .str x] ∧ Bk C G H b l cs past ∧ (match cGet cs x with | some ts => ∀ p, H p = none → Q (.ref p) (upd H p (.lst (ts.map V.int))) | none => E (.ref (ea 4)) none H)
theorem sc_Book_teeth : FnScope ["self", "name"] ["self", "name"] (defScope s_Book_teeth) := ⟨rfl, rfl, rfl, by decide +kernel, rfl, by decide +kernel, by decide +kernel⟩
theorem ok_bteeth {ea : Nat → Addr} {C : Addr} (D : MethAt K C "Book" "teeth" s_Book_teeth) (T : Bn mg) (BA : BookAt K C) (M_check_comb : Method P w K mg base C "check_comb" (CX1 P w) 1 ["self", "name"] (sp_check ea C)) : Method P w K mg base C "teeth" (CX1 P w) 2 ["self", "name"] (sp_bteeth ea C) := by
  refine D.meth1 sc_Book_teeth (fun _ _ _ _ _ _ us hl => match us, hl with | [_, _], _ => rfl) (fun vs H Q E h => ?_) (fun f cdv A outer s H vs Q E hr h => ?_)
  · obtain ⟨b, l, G, cs, past, x, rfl, _⟩ := h
    rfl
  · obtain ⟨b, l, G, cs, past, x, rfl, B, q⟩ := h
    have S := sc_Book_teeth
    have hu := hu_of hr
    have B_cls := BA.cls
    obtain ⟨dx, d, hb, gd, kvs, hd, kr⟩ := id B.ins
    refine ⟨_, pss_cons (ps_expr (pe_mt (pv 0) B_cls M_check_comb (hr.mono (by decide)) (by first | exact pass0 | exact pass_try | exact pass1 | exact pass_E0) (pa_cons (pv 1) pa_nil)))
    (pss_one (ps_ret (pe_callTy call_list_of rfl T.n_list boot_list (pa_cons (pe_dget hu (pe_fld (pv 0) rfl) (pv 1) (fun _ _ => rfl)) pa_nil)))), ?_⟩
    refine ⟨_, rfl, _, _, _, rfl, hb, rfl, _, rfl, b, l, G, cs, past, x, rfl, B, ?_⟩
    rcases kr.val (x := x) with ⟨e1, e2⟩ | ⟨ts, t, e1, e2, e3, e4⟩
    · rw [e1] at q ⊢
      exact q
    · rw [e1] at q ⊢
      refine iteT ?_
      refine ⟨_, rfl, _, _, _, _, _, rfl, hb, BA.cls, BA.nc, lk_combs, _, rfl, d, _, rfl, ?_, _, _, rfl, .inl (SqL.of e3), q⟩
      rw [← e2]
      exact DGet.k (k := Sum.inr x) hd
def sp_init (C : Addr) : Sp := fun vs H Q _ => ∃ b dx, vs = [.ref b] ∧ H b = some (.ins C dx []) ∧ ∀ H' l d, Mv b b (fun _ => False) (fun a => a = d) H H' → H l = none → H d = none → Bk C (fun a => a = d) H' b l [] [] → Q .non H'
theorem sc_Book___init__ : FnScope ["self"] ["self"] (defScope s_Book___init__) := ⟨rfl, rfl, rfl, by decide +kernel, rfl, by decide +kernel, by decide +kernel⟩
theorem ok_init {C : Addr} {f : Addr} {fd : FuncData} (F : Fun K "__init__" "Book.__init__" s_Book___init__ f fd) (T : Bn mg) (BA : BookAt K C) : FnOk P w K mg base CX0 1 f fd ["self"] (sp_init C) := by
  refine F.ok sc_Book___init__ (fun vs H Q E h => ?_) (fun cdv A outer s H vs Q E hr h => ?_)
  · obtain ⟨b, dx, rfl, _⟩ := h
    rfl
  · obtain ⟨b, dx, rfl, hb, q⟩ := h
    have S := sc_Book___init__
    refine ⟨_, pss_cons (ps_fld (pv 0) (pe_dnewK) rfl)
    (pss_one (ps_fld (pv 0) (pe_lst (pa_nil)) rfl)), ?_⟩
    refine fun d nd => ?_
    have hbd : b ≠ d := ne_of_none hb nd
    have hb1 : upd H d (.dK []) b = some (.ins C dx []) := by rw [upd_ne hbd]; exact hb
    refine ⟨_, rfl, _, _, _, _, rfl, hb1, BA.cls, BA.nc, by decide, ?_⟩
    rw [putF_new]
    refine ⟨bigr rfl, fun l nl => ?_⟩
    have hbl : b ≠ l := fun z => by rw [← z, upd_same] at nl; cases nl
    have nl1 : upd H d (.dK []) l = none := by rw [upd_ne (Ne.symm hbl)] at nl; exact nl
    have hdl : d ≠ l := fun z => by rw [← z, upd_same] at nl1; cases nl1
    have hln : H l = none := by rw [upd_ne (Ne.symm hdl)] at nl1; exact nl1
    have hb2 : upd (upd (upd H d (.dK [])) b (.ins C dx [(Str.ofString "combs", V.ref d)])) l (.lst []) b = some (.ins C dx [("combs", .ref d)]) := by rw [upd_ne hbl, upd_same]
    refine ⟨_, rfl, _, _, _, _, rfl, hb2, BA.cls, BA.np, (show 1 < 1000 by decide), ?_⟩
    rw [putF_past]
    have hb3 : upd (upd (upd (upd H d (.dK [])) b (.ins C dx [(Str.ofString "combs", V.ref d)])) l (.lst [])) b (.ins C dx [(Str.ofString "combs", V.ref d), (Str.ofString "past", V.ref l)]) b = some (.ins C dx [("combs", .ref d), ("past", .ref l)]) := upd_same
    have hd3 : upd (upd (upd (upd H d (.dK [])) b (.ins C dx [(Str.ofString "combs", V.ref d)])) l (.lst [])) b (.ins C dx [(Str.ofString "combs", V.ref d), (Str.ofString "past", V.ref l)]) d = some (.dK []) := by
      rw [upd_ne (Ne.symm hbd), upd_ne hdl, upd_ne (Ne.symm hbd), upd_same]
    have hl3 : upd (upd (upd (upd H d (.dK [])) b (.ins C dx [(Str.ofString "combs", V.ref d)])) l (.lst [])) b (.ins C dx [(Str.ofString "combs", V.ref d), (Str.ofString "past", V.ref l)]) l = some (.lst []) := by
      rw [upd_ne (Ne.symm hbl), upd_same]
    have off : ∀ a o, H a = some o → a ≠ b → upd (upd (upd (upd H d (.dK [])) b (.ins C dx [(Str.ofString "combs", V.ref d)])) l (.lst [])) b (.ins C dx [(Str.ofString "combs", V.ref d), (Str.ofString "past", V.ref l)]) a = some o := fun a o e n => by
      rw [upd_ne n, upd_ne (ne_of_none e hln), upd_ne n, upd_ne (ne_of_none e nd)]; exact e
    generalize upd (upd (upd (upd H d (.dK [])) b (.ins C dx [(Str.ofString "combs", V.ref d)])) l (.lst [])) b (.ins C dx [(Str.ofString "combs", V.ref d), (Str.ofString "past", V.ref l)]) = H3 at hb3 hd3 hl3 off
    refine q H3 l d ⟨fun a o e n _ => off a o e n, fun a h => ?_, fun a g => .inr (by rw [g]; exact nd)⟩ hln nd ⟨fun x g => ?_, hbd, fun z => hdl z.symm, ⟨dx, d, hb3, rfl, [], hd3, .nil⟩, ⟨[], hl3, .nil⟩, good_nil, by simp, by decide⟩
    · by_cases z : a = b
      · rw [z, hb3]; simp
      · cases e : H a with
        | none => exact absurd e h
        | some o => rw [off a o e z]; simp
    · rw [show x = d from g, hd3]; simp
def sp_set (ea : Nat → Addr) (C : Addr) : Sp := fun vs H Q E => ∃ b l G cs past x a ts, vs = [.ref b, .str x, .ref a] ∧ Bk C G H b l cs past ∧ SqL K H a (ts.map V.int) ∧ areTeeth ts = true ∧ isName x = true ∧ (cs.length < 8 ∨ (cGet cs x).isSome = true) ∧ Deed ea C G H b l cs past Q E (full past (cPut cs x (canon ts)))
theorem sc_Book_set_comb : FnScope ["self", "name", "teeth", "combs"] ["self", "name", "teeth"] (defScope s_Book_set_comb) := ⟨rfl, rfl, rfl, by decide +kernel, rfl, by decide +kernel, by decide +kernel⟩
theorem ok_set {ea : Nat → Addr} {C : Addr} (D : MethAt K C "Book" "set_comb" s_Book_set_comb) (T : Bn mg) (BA : BookAt K C) (M_do_deed : Method P w K mg base C "do_deed" (CX1 P w) 1 ["self", "combs"] (sp_do ea C)) : Method P w K mg base C "set_comb" (CX1 P w) 2 ["self", "name", "teeth"] (sp_set (K := K) ea C) := by
  refine D.meth1 sc_Book_set_comb (fun _ _ _ _ _ _ us hl => match us, hl with | [_, _, _], _ => rfl) (fun vs H Q E h => ?_) (fun f cdv A outer s H vs Q E hr h => ?_)
  · obtain ⟨b, l, G, cs, past, x, a, ts, rfl, _⟩ := h
    rfl
  · obtain ⟨b, l, G, cs, past, x, a, ts, rfl, B, ha, ht, hx, hn, q⟩ := h
    have S := sc_Book_set_comb
    have hu := hu_of hr
    have B_cls := BA.cls
    obtain ⟨t0, tn, tr⟩ := teeth_iff.mp ht
    obtain ⟨dx, d, hb, gd, kvs, hd, kr⟩ := id B.ins
    refine ⟨_, pss_cons (ps_set (i := 3) S.nd rfl (Or.inl rfl) (pe_callTy call_dictD rfl T.n_dict boot_dict (pa_cons (pe_fld (pv 0) rfl) pa_nil)))
    (pss_cons (ps_dput hu (pv 3) (pv 1) (pe_callB call_sortedI rfl T.n_sorted boot_sorted (pa_cons (pv 2) pa_nil)) rfl)
    (pss_one (ps_ret (pe_mt (pv 0) B_cls M_do_deed (hr.mono (by decide)) (by first | exact pass0 | exact pass_try | exact pass1 | exact pass_E0) (pa_cons (pv 3) pa_nil))))), ?_⟩
    refine ⟨_, rfl, _, _, _, _, _, rfl, hb, BA.cls, BA.nc, lk_combs, d, kvs, rfl, .inl hd, fun p np => ?_⟩
    have s1 : Same H (upd H p (.dK kvs)) := Same.new np
    refine ⟨_, rfl, a, ts, rfl, s1.seq ha, ?_, fun r ns nr hp hs => ?_⟩
    · have := teeth_len tn tr
      omega
    have hc := canon_of hp hs tn tr
    subst hc
    have npr : p ≠ r := fun z => by rw [← z, upd_same] at nr; cases nr
    have hr0 : H r = none := s1.free nr
    have s2 : Same H (upd (upd H p (.dK kvs)) r (.lst ((canon ts).map V.int))) := s1.put hr0
    have hp2 : upd (upd H p (.dK kvs)) r (.lst ((canon ts).map V.int)) p = some (.dK kvs) := by rw [upd_ne npr, upd_same]
    have hkl : kvs.length < sizeLine := by
      have := kr.length
      have := B.good.len
      exact Nat.lt_of_lt_of_le (by omega : kvs.length < 1000) sizeBig
    refine ⟨_, rfl, _, rfl, p, _, rfl, DPut.k (k := Sum.inr x) hp2 hkl, ?_⟩
    have s3 : Same H (upd (upd (upd H p (.dK kvs)) r (.lst ((canon ts).map V.int))) p (.dK (putK kvs (Sum.inr x) (.ref r)))) := s2.put np
    have hr3 : upd (upd (upd H p (.dK kvs)) r (.lst ((canon ts).map V.int))) p (.dK (putK kvs (Sum.inr x) (.ref r))) r = some (.lst ((canon ts).map V.int)) := by rw [upd_ne (Ne.symm npr), upd_same]
    have hp3 : upd (upd (upd H p (.dK kvs)) r (.lst ((canon ts).map V.int))) p (.dK (putK kvs (Sum.inr x) (.ref r))) p = some (.dK (putK kvs (Sum.inr x) (.ref r))) := upd_same
    generalize upd (upd (upd H p (.dK kvs)) r (.lst ((canon ts).map V.int))) p (.dK (putK kvs (Sum.inr x) (.ref r))) = H3 at s3 hr3 hp3
    have B3 := B.same s3
    obtain ⟨lb, ll⟩ := B.liveB
    refine ⟨_, rfl, b, dx, _, rfl, s3 _ _ hb, rfl, _, rfl, b, l, G, cs, past, p, fun a => G a ∨ a = p ∨ a = r, cPut cs x (canon ts), rfl, B3, ⟨.inr (.inl rfl), _, hp3, ?_⟩, B.good.put hx (gt_canon t0) hn, ?_, ?_⟩
    · exact (kr.mono (fun a o _ e => s3 a o e) fun _ g => .inl g).put hr3 (.inr (.inr rfl))
    · rintro y (g | g | g)
      · exact ⟨fun z => B.nb (z ▸ g), fun z => B.nl (z ▸ g), B3.live y g⟩
      · subst g
        exact ⟨fun z => lb (z ▸ np), fun z => ll (z ▸ np), by rw [hp3]; simp⟩
      · subst g
        exact ⟨fun z => lb (z ▸ hr0), fun z => ll (z ▸ hr0), by rw [hr3]; simp⟩
    · unfold full at q
      by_cases h3 : 300 ≤ past.length
      · rw [if_pos h3] at q ⊢
        exact q H3 s3
      · rw [if_neg h3] at q ⊢
        intro H4 off B4
        refine q H4 _ ⟨fun a o e n1 n2 => (off a n1 n2).trans (s3 a o e), fun a h => ?_, fun a g => ?_⟩ B4
        · obtain ⟨lb4, ll4⟩ := B4.liveB
          by_cases z : a = b
          · rw [z]; exact lb4
          · by_cases z2 : a = l
            · rw [z2]; exact ll4
            · rw [off a z z2]; exact live_same s3 a h
        · rcases g with g | g | g | g
          · exact .inl g
          · exact .inl g
          · rw [g]; exact .inr np
          · rw [g]; exact .inr hr0
def sp_put (ea : Nat → Addr) (C : Addr) : Sp := fun vs H Q E => ∃ b l G cs past x a ts, vs = [.ref b, .str x, .ref a] ∧ Bk C G H b l cs past ∧ SqL K H a (ts.map V.int) ∧ x.length ≤ sizeLine ∧ ts.length ≤ 1000 ∧ Deed ea C G H b l cs past Q E (putD cs past x ts)
theorem sc_Book_put : FnScope ["self", "name", "teeth"] ["self", "name", "teeth"] (defScope s_Book_put) := ⟨rfl, rfl, rfl, by decide +kernel, rfl, by decide +kernel, by decide +kernel⟩
theorem ok_put {ea : Nat → Addr} {C : Addr} (D : MethAt K C "Book" "put" s_Book_put) (T : Bn mg) (BA : BookAt K C) (V_MOST_COMBS : ∃ t, mg "MOST_COMBS" = some (.int 8 t)) (O_BadName : Err K mg "BadName" (ea 0)) (O_BadTeeth : Err K mg "BadTeeth" (ea 1)) (O_NameTaken : Err K mg "NameTaken" (ea 2)) (O_BookFull : Err K mg "BookFull" (ea 3))
    (C_is_name : Callee P w K mg base "is_name" 2 ["text"] sp_name) (C_are_teeth : Callee P w K mg base "are_teeth" 1 ["teeth"] (sp_teeth K)) (M_set_comb : Method P w K mg base C "set_comb" (CX1 P w) 2 ["self", "name", "teeth"] (sp_set (K := K) ea C)) : Method P w K mg base C "put" (CX1 P w) 3 ["self", "name", "teeth"] (sp_put (K := K) ea C) := by
  refine D.meth1 sc_Book_put (fun _ _ _ _ _ _ us hl => match us, hl with | [_, _, _], _ => rfl) (fun vs H Q E h => ?_) (fun f cdv A outer s H vs Q E hr h => ?_)
  · obtain ⟨b, l, G, cs, past, x, a, ts, rfl, _⟩ := h
    rfl
  · obtain ⟨b, l, G, cs, past, x, a, ts, rfl, B, ha, hxl, htl, q⟩ := h
    have S := sc_Book_put
    have hu := hu_of hr
    have B_cls := BA.cls
    unfold putD at q
    refine ⟨_, pss_cons (ps_if (pt_not (pt_val (pe_fn C_is_name (hr.mono (by decide)) rfl (pa_cons (pv 1) pa_nil))))
      (pss_one (ps_raise O_BadName rfl (pa_cons (pe_str) pa_nil)))
      (pss_nil))
    (pss_cons (ps_if (pt_not (pt_val (pe_fn C_are_teeth (hr.mono (by decide)) rfl (pa_cons (pv 2) pa_nil))))
      (pss_one (ps_raise O_BadTeeth rfl (pa_cons (pe_str) pa_nil)))
      (pss_nil))
    (pss_cons (ps_if (pt_cmp (pc_din hu (pv 1) (pe_fld (pv 0) rfl)))
      (pss_one (ps_raise O_NameTaken rfl (pa_cons (pe_str) pa_nil)))
      (pss_nil))
    (pss_cons (ps_if (pt_cmpR op_ge (pe_callB call_lenD rfl T.n_len PySem.boot_len (pa_cons (pe_fld (pv 0) rfl) pa_nil)) (pe_gint rfl V_MOST_COMBS) (nomark _))
      (pss_one (ps_raise O_BookFull rfl (pa_cons (pe_str) pa_nil)))
      (pss_nil))
    (pss_one (ps_ret (pe_mt (pv 0) B_cls M_set_comb (hr.mono (by decide)) (by first | exact pass0 | exact pass_try | exact pass1 | exact pass_E0) (pa_cons (pv 1) (pa_cons (pv 2) pa_nil)))))))), ?_⟩
    refine ⟨_, rfl, x, rfl, hxl, fun H1 s1 => ⟨_, rfl, ?_⟩⟩
    cases e1 : isName x with
    | false =>
      rw [e1, if_pos rfl] at q
      exact iteT ⟨bigr rfl, q H1 s1⟩
    | true =>
      rw [e1, if_neg (by decide)] at q
      refine iteF ?_
      refine ⟨_, rfl, a, ts, rfl, s1.seq ha, htl, fun H2 s2 => ⟨_, rfl, ?_⟩⟩
      have s12 := s1.trans s2
      cases e2 : areTeeth ts with
      | false =>
        rw [e2, if_pos rfl] at q
        exact iteT ⟨bigr rfl, q H2 s12⟩
      | true =>
        rw [e2, if_neg (by decide)] at q
        refine iteF ?_
        have B2 := B.same s12
        obtain ⟨dx, d, hb, gd, kvs, hd, kr⟩ := id B2.ins
        refine ⟨_, rfl, _, rfl, _, _, _, _, _, rfl, hb, BA.cls, BA.nc, lk_combs, d, _, rfl, DGet.k (k := Sum.inr x) hd, _, rfl, ?_⟩
        rw [kr.some]
        cases e3 : (cGet cs x).isSome with
        | true =>
          rw [e3, if_pos rfl] at q
          exact iteT ⟨bigr rfl, q H2 s12⟩
        | false =>
          rw [e3, if_neg (by decide)] at q
          refine iteF ?_
          refine ⟨_, rfl, _, _, _, _, _, rfl, hb, BA.cls, BA.nc, lk_combs, _, _, rfl, hd, _, _, rfl, rfl, _, rfl, ?_⟩
          rw [kr.length]
          refine ite2 (fun hc => ?_) (fun hc => ?_)
          · have h8 : 8 ≤ cs.length := by
              have : (8 : Int) ≤ (cs.length : Int) := by simpa using hc
              omega
            rw [if_pos h8] at q
            exact ⟨bigr rfl, q H2 s12⟩
          · have h8 : ¬ 8 ≤ cs.length := by
              have : ¬ (8 : Int) ≤ (cs.length : Int) := by simpa using hc
              omega
            rw [if_neg h8] at q
            exact ⟨_, rfl, b, dx, _, rfl, hb, rfl, _, rfl, _, rfl, b, l, G, cs, past, x, a, ts, rfl, B2, s12.seq ha, e2, e1, .inl (by omega), q.from s12⟩
def worths : List Int := [1, 2, 4, 8, 16, 32, 64, 128]
theorem at_worths {t : Int} (h0 : 0 ≤ t) (h7 : t ≤ 7) : atI (worths.map V.int) t = some (.int (pw t)) := by
  have : t = 0 ∨ t = 1 ∨ t = 2 ∨ t = 3 ∨ t = 4 ∨ t = 5 ∨ t = 6 ∨ t = 7 := by omega
  rcases this with h | h | h | h | h | h | h | h <;> subst h <;> rfl
def sp_worth (K : PySem.W.Frag) : Sp := fun vs H Q _ => ∃ (a : Addr) (ts : List Int), vs = [.ref a] ∧ SqL K H a (ts.map V.int) ∧ (∀ t ∈ ts, 0 ≤ t ∧ t ≤ 7) ∧ ts.length ≤ 1000 ∧ ∀ H', Same H H' → Q (.int (worth ts)) H'
theorem sc_teeth_worth : FnScope ["teeth"] ["teeth"] (defScope s_teeth_worth) := ⟨rfl, rfl, rfl, by decide +kernel, rfl, by decide +kernel, by decide +kernel⟩
theorem ok_worth {tw : Addr} (D : DefAt K mg "teeth_worth" s_teeth_worth) (T : Bn mg) (G_TOOTH_WORTH : mg "TOOTH_WORTH" = some (.ref tw)) (HTW : ∀ H, SqT K H tw (worths.map V.int)) : Callee P w K mg base "teeth_worth" 1 ["teeth"] (sp_worth K) := by
  refine D.callee sc_teeth_worth (fun _ _ _ _ _ _ us hl => match us, hl with | [_], _ => rfl) (fun vs H Q E h => ?_) (fun f cdv A outer s H vs Q E hr h => ?_)
  · obtain ⟨a, ts, rfl, _⟩ := h
    rfl
  · obtain ⟨a, ts, rfl, ha, hr7, hl, q⟩ := h
    have S := sc_teeth_worth
    refine ⟨_, pss_one (ps_ret (pe_callB (call_sum1 rfl) rfl T.n_sum boot_sum (pa_cons (pe_comp (own := ["tooth"]) (caps := []) rfl ⟨rfl, rfl, rfl, rfl, trivial⟩ (pi_list (pv 0)) (fun _ _ _ _ _ _ => pg_name (i := 0) (nd_comp (by decide +kernel)) rfl (Or.inl rfl)) (fun _ _ _ _ _ _ => pts_nil) (fun _ _ _ _ _ _ => pe_ix (ix_tup' K rfl) (pe_cls rfl G_TOOTH_WORTH) (pv 0) (fun _ _ => rfl))) pa_nil))), ?_⟩
    refine ⟨_, rfl, _, rfl, ⟨_, ha⟩, fun D hD => ?_⟩
    refine comp_s (capv := []) (L := ts.map V.int) (by rfl) (gives_list K a (ts.map V.int)) (by rw [List.length_map]; exact big hl) hD ?_ (fun _ => true) (fun v => match v with | .int t => .int (pw t) | _ => .non) ?_ ?_ ?_
    · exact fun H' s' => s'.seq ha
    · exact fun v hv H' R s' h => h H' (Same.refl _)
    · intro v hv _ H' R s' h
      obtain ⟨t, ht, rfl⟩ := List.mem_map.mp hv
      have h : R (.int (pw t)) H' := h H' (Same.refl _)
      obtain ⟨h0, h7⟩ := hr7 t ht
      exact ⟨_, rfl, _, _, _, _, rfl, rfl, HTW H', at_worths h0 h7, h⟩
    · intro H' s' e
      refine ⟨_, ts.map pw, rfl, ?_, q H' s'⟩
      refine SqL.of ?_
      rw [e]
      congr 2
      rw [List.filter_eq_self.mpr (fun _ _ => rfl), List.map_map, List.map_map]
      rfl
def sp_steps (ea : Nat → Addr) (C : Addr) : Sp := fun vs H Q E => ∃ b l G cs past n, vs = [.ref b, .int n] ∧ Bk C G H b l cs past ∧
  (if 0 ≤ n ∧ n < 128 then ∀ p H' ws, Same H H' → H p = none → H' p = some (.lst ws) → (∀ nm : List Str, nm.Perm (cs.map (·.1)) → sortedS nm = true → StepsR H' ws (stepsOf (byNames cs nm) n)) → Q (.ref p) H' else E (.ref (ea 11)) none H)
theorem sc_shape_steps : FnScope ["book", "shape", "steps", "name", "worth"] ["book", "shape"] (defScope s_shape_steps) := ⟨rfl, rfl, rfl, by decide +kernel, rfl, by decide +kernel, by decide +kernel⟩
theorem ok_steps {ea : Nat → Addr} {C : Addr} (D : DefAt K mg "shape_steps" s_shape_steps) (T : Bn mg) (BA : BookAt K C) (V_SHAPES : ∃ t, mg "SHAPES" = some (.int 128 t)) (O_BadShape : Err K mg "BadShape" (ea 11)) (C_teeth_worth : Callee P w K mg base "teeth_worth" 1 ["teeth"] (sp_worth K))
    (M_names : Method P w K mg base C "names" CX0 1 ["self"] (sp_names C)) (M_teeth : Method P w K mg base C "teeth" (CX1 P w) 2 ["self", "name"] (sp_bteeth ea C)) : Callee1 P w K mg base "shape_steps" 3 ["book", "shape"] (sp_steps ea C) := by
  refine D.callee1 sc_shape_steps (fun _ _ _ _ _ _ us hl => match us, hl with | [_, _], _ => rfl) (fun vs H Q E h => ?_) (fun f cdv A outer s H vs Q E hr h => ?_)
  · obtain ⟨b, l, G, cs, past, n, rfl, _⟩ := h
    rfl
  · obtain ⟨b, l, G, cs, past, n, rfl, B, q⟩ := h
    have S := sc_shape_steps
    have hu := hu_of hr
    have B_cls := BA.cls
    refine ⟨_, pss_cons (ps_if (pt_not (pt_chain op_le op_lt (pe_int) (pv 1) (pe_gint rfl V_SHAPES)))
      (pss_one (ps_raise O_BadShape rfl (pa_cons (pe_str) pa_nil)))
      (pss_nil))
    (pss_cons (ps_if (pt_cmpR op_eq (pe_op op_mod (pv 1) (pe_int)) (pe_int) (nomark _))
      (pss_one (ps_ret (pe_lst (pa_cons (pe_tup (pa_cons (pe_str) (pa_cons (pe_op op_fdiv (pv 1) (pe_int)) pa_nil))) pa_nil))))
      (pss_nil))
    (pss_cons (ps_set (i := 2) S.nd rfl (Or.inl rfl) (pe_lst (pa_nil)))
    (pss_cons (ps_for PassesOwn.leaving rfl (pi_list (pe_mt0 (pv 0) B_cls M_names (hr.mono (by decide)) (by first | exact pass0 | exact pass_try | exact pass1 | exact pass_E0))) (pg_name (i := 3) S.nd rfl (Or.inl rfl))
      (pss_cons (ps_set (i := 4) S.nd rfl (Or.inl rfl) (pe_fn C_teeth_worth (hr.mono (by decide)) rfl (pa_cons (pe_mt (pv 0) B_cls M_teeth (hr.mono (by decide)) (by first | exact pass0 | exact pass_try | exact pass1 | exact pass_E0) (pa_cons (pv 3) pa_nil)) pa_nil)))
      (pss_one (ps_if (pt_cmpR op_eq (pe_op op_and (pv 1) (pv 4)) (pe_int) (nomark _))
        (pss_one (ps_expr (pe_bm PySem.F.plainAttrs_list PySem.F.slot_list_append PySem.F.type_list_append mt_append (pv 2) (pa_cons (pe_tup (pa_cons (pv 3) (pa_cons (pe_op op_fdiv (pe_op op_add (pv 1) (pv 4)) (pe_int)) pa_nil))) pa_nil))))
        (pss_nil)))))
    (pss_one (ps_ret (pv 2)))))), ?_⟩
    refine ⟨_, rfl, _, _, rfl, rfl, _, rfl, ?_⟩
    refine ite2 (fun h0 => ?_) (fun h0 => ?_)
    rotate_left
    · have h0 : ¬ (0 : Int) ≤ n := by simpa using h0
      rw [if_neg (fun z => h0 z.1)] at q
      exact ⟨_, rfl, iteT ⟨bigr rfl, q⟩⟩
    have h0 : (0 : Int) ≤ n := by simpa using h0
    refine ⟨_, _, rfl, rfl, _, rfl, ?_⟩
    by_cases h1 : n < 128
    case neg =>
      rw [if_neg (fun z => h1 z.2)] at q
      rw [decide_eq_false h1]
      exact iteT ⟨bigr rfl, q⟩
    rw [if_pos ⟨h0, h1⟩] at q
    rw [decide_eq_true h1]
    refine iteF ?_
    have p2 : (0 : Int) < 2 := by decide
    refine ⟨_, rfl, _, _, rfl, rfl, p2, rfl, _, rfl, ?_⟩
    refine ite2 (fun hc => ?_) (fun hc => ?_)
    · have hc : n % 2 = 1 := by simpa using hc
      refine ⟨_, rfl, _, _, rfl, rfl, ⟨p2, by decide⟩, bigr rfl, fun t nt => ⟨bigr rfl, fun p np => ?_⟩⟩
      have s1 : Same H (upd H t (.tup [.str "", .int (n / 2)])) := Same.new nt
      refine q p _ [.ref t] (s1.trans (Same.new np)) (s1.free np) upd_same fun nm _ _ => ?_
      rw [steps_odd hc]
      refine ⟨⟨t, rfl, ?_⟩, trivial⟩
      rw [upd_ne (fun z => by rw [← z, upd_same] at np; cases np)]
      exact upd_same
    · have hc : ¬ n % 2 = 1 := by simpa using hc
      refine ⟨bigr rfl, fun pl npl => ?_⟩
      have s1 : Same H (upd H pl (.lst [])) := Same.new npl
      obtain ⟨dx, d, hb, _⟩ := id (B.same s1).ins
      refine ⟨_, rfl, b, dx, _, rfl, hb, rfl, b, l, G, cs, past, rfl, B.same s1, fun pn nm npn hnp hns => ⟨_, rfl, ⟨_, SqL.of upd_same⟩, ?_⟩⟩
      have nlp : pn ≠ pl := fun z => by rw [z, upd_same] at npn; cases npn
      have s2 : Same H (upd (upd H pl (.lst [])) pn (.lst (nm.map V.str))) := s1.trans (Same.new npn)
      have hnl : nm.length ≤ 8 := by
        have := hnp.length_eq
        rw [List.length_map] at this
        have := B.good.len
        omega
      refine for_g (gives_list K pn (nm.map V.str)) (fun i σ Hx => Same H Hx ∧ Hx pn = some (.lst (nm.map V.str)) ∧ ∃ ws x3 x4, σ = [some (.ref b), some (.int n), some (.ref pl), x3, x4] ∧ Hx pl = some (.lst ws) ∧ ws.length ≤ i ∧ StepsR Hx ws (stepsOf (byNames cs (nm.take i)) n)) ⟨s2, upd_same, [], _, _, rfl, (by rw [upd_ne nlp.symm]; exact upd_same), Nat.le_refl _, ?_⟩ (fun i σ Hx _ h => SqL.of h.2.1) ?_ ?_
      · rw [List.take_zero]
        show StepsR _ [] (stepsOf [] n)
        rw [steps_nil hc]
        trivial
      · rintro i x σ Hx hx ⟨sx, hpn, ws, x3, x4, rfl, hpl, hwl, hst⟩
        rw [List.getElem?_map] at hx
        cases hk : nm[i]? with
        | none => rw [hk] at hx; cases hx
        | some y =>
          rw [hk] at hx
          cases hx
          have hi : i < nm.length := (List.getElem?_eq_some_iff.mp hk).1
          have hy : y ∈ cs.map (·.1) := hnp.mem_iff.mp (List.mem_of_getElem? hk)
          cases hts : cGet cs y with
          | none => exact absurd hy (get_none.mp hts)
          | some ts =>
            have gts : GT ts := (B.good.ok _ (get_mem hts)).2
            obtain ⟨dx2, d2, hb2, _⟩ := id (B.same sx).ins
            refine ⟨_, rfl, b, dx2, _, rfl, hb2, rfl, _, rfl, b, l, G, cs, past, y, rfl, B.same sx, ?_⟩
            rw [hts]
            intro p3 np3
            refine ⟨p3, ts, rfl, SqL.of upd_same, gt_in gts, by have := gt_len gts; omega, fun H4 s4 => ?_⟩
            have s34 : Same Hx H4 := (Same.new np3).trans s4
            have eN : byNames cs (nm.take (i + 1)) = byNames cs (nm.take i) ++ [(y, ts)] := by
              rw [take_snoc hk, byNames_snoc hts]
            refine ⟨_, rfl, _, rfl, _, _, rfl, rfl, rfl, _, rfl, ?_⟩
            refine ite2 (fun hz => ?_) (fun hz => ?_)
            · have hz : Builtin.bitAnd n (worth ts) = 0 := by simpa using hz
              refine ⟨_, rfl, .inl ⟨rfl, _, SqL.of (s34 _ _ hpl)⟩, _, rfl, _, rfl, _, rfl, _, _, rfl, rfl, _, _, rfl, rfl, ⟨p2, by decide⟩, bigr rfl, fun t nt => ?_⟩
              have s5 : Same Hx (upd H4 t (.tup [.str y, .int ((n + worth ts) / 2)])) := s34.trans (Same.new nt)
              have nplt : t ≠ pl := fun z => by rw [z, s34 _ _ hpl] at nt; cases nt
              refine ⟨pl, _, _, rfl, rfl, s5 _ _ hpl, Nat.lt_of_lt_of_le (by omega : ws.length < 1000) sizeBig, ?_⟩
              refine ⟨(sx.trans s5).put npl, (by rw [upd_ne nlp]; exact s5 _ _ hpn), _, _, _, rfl, upd_same, (by rw [List.length_append, List.length_singleton]; omega), ?_⟩
              rw [eN, steps_snoc hc, if_pos hz]
              refine StepsR.snoc ?_ (hst.mono fun q' xs hq' => ?_)
              · rw [upd_ne nplt]; exact upd_same
              · have : q' ≠ pl := fun z => by rw [z, hpl] at hq'; cases hq'
                rw [upd_ne this]; exact s5 _ _ hq'
            · have hz : ¬ Builtin.bitAnd n (worth ts) = 0 := by simpa using hz
              refine ⟨sx.trans s34, s34 _ _ hpn, ws, _, _, rfl, s34 _ _ hpl, by omega, ?_⟩
              rw [eN, steps_snoc hc, if_neg hz, List.append_nil]
              exact hst.mono fun q' xs hq' => s34 _ _ hq'
      · rintro σ Hx ⟨sx, hpn, ws, x3, x4, rfl, hpl, hwl, hst⟩
        rw [List.length_map, List.take_length] at hst
        refine ⟨_, rfl, q pl Hx ws sx npl hpl fun nm' hp' hs' => ?_⟩
        rw [strs_same (hp'.trans hnp.symm) hs' hns]
        exact hst
--CUT--
/-- the table of the ways on from each shape, as it lies in the heap -/
def TabR (H : Hp) (ts : List V) (C : Combs) : Prop := ts.length = 128 ∧ ∀ s : Nat, s < 128 → ∃ q ws, ts[s]? = some (.ref q) ∧ H q = some (.lst ws) ∧ StepsR H ws (stp C s)
theorem TabR.same {H H' : Hp} {ts : List V} {C : Combs} (t : TabR H ts C) (s : Same H H') : TabR H' ts C :=
  ⟨t.1, fun i h => let ⟨q, ws, a, b, c⟩ := t.2 i h; ⟨q, ws, a, s _ _ b, c.mono fun _ _ e => s _ _ e⟩⟩
def sp_table (C : Addr) : Sp := fun vs H Q _ => ∃ b l G cs past, vs = [.ref b] ∧ Bk C G H b l cs past ∧ ∀ p H' ts, Same H H' → H p = none → H' p = some (.lst ts) → TabR H' ts (srt cs) → Q (.ref p) H'
theorem sc_step_table : FnScope ["book"] ["book"] (defScope s_step_table) := ⟨rfl, rfl, rfl, by decide +kernel, rfl, by decide +kernel, by decide +kernel⟩
theorem ok_table {ea : Nat → Addr} {C : Addr} (D : DefAt K mg "step_table" s_step_table) (T : Bn mg) (V_SHAPES : ∃ t, mg "SHAPES" = some (.int 128 t)) (C_shape_steps : Callee1 P w K mg base "shape_steps" 3 ["book", "shape"] (sp_steps ea C)) : Callee1 P w K mg base "step_table" 4 ["book"] (sp_table C) := by
  refine D.callee1 sc_step_table (fun _ _ _ _ _ _ us hl => match us, hl with | [_], _ => rfl) (fun vs H Q E h => ?_) (fun f cdv A outer s H vs Q E hr h => ?_)
  · obtain ⟨b, l, G, cs, past, rfl, _⟩ := h
    rfl
  · obtain ⟨b, l, G, cs, past, rfl, B, q⟩ := h
    have S := sc_step_table
    refine ⟨_, pss_one (ps_ret (pe_comp (own := ["shape"]) (caps := [(0, "book")]) rfl ⟨rfl, rfl, rfl, rfl, ⟨⟨rfl, rfl, .inl rfl⟩, trivial⟩⟩ (pi_range1 rfl T.n_range (pa_cons (pe_gint rfl V_SHAPES) pa_nil)) (fun _ _ _ _ _ _ => pg_name (i := 0) (nd_comp (by decide +kernel)) rfl (Or.inl rfl)) (fun _ _ _ _ _ _ => pts_nil) (fun _ _ _ _ _ _ => pe_fn1 C_shape_steps (hr.mono (by decide)) (by first | exact pass_try | exact pass1 | exact pass_E0) rfl (pa_cons (pv 1) (pa_cons (pv 0) pa_nil))))), ?_⟩
    refine ⟨_, rfl, by decide, by decide, fun D hD => ?_⟩
    refine comp_x (capv := [some (.ref b)]) (by rfl) (gives_range 0 (128 : Int).toNat) (by rw [range_len]; exact big (by decide)) hD (fun _ _ => trivial) (fun _ => true) (fun H i v => ∃ (q : Addr) (ws : List V), v = .ref q ∧ H q = some (.lst ws) ∧ StepsR H ws (stp (srt cs) i)) ?_ ?_ (fun i x hx H R s' h => h H (Same.refl _)) ?_ ?_
    · rintro H H' i v s' ⟨qa, ws, e2, e3, e4⟩
      exact ⟨qa, ws, e2, s' _ _ e3, e4.mono fun _ _ e => s' _ _ e⟩
    · rintro H i v l' l'' hv hH ⟨qa, ws, e2, e3, e4⟩
      subst e2
      have hne : qa ≠ D := fun z => hv (by rw [z])
      refine ⟨qa, ws, rfl, (by rw [upd_ne hne]; exact e3), e4.mono fun q' xs e => ?_⟩
      rw [upd_ne (fun z => by rw [z, hH] at e; cases e)]
      exact e
    · intro i x hx _ H' R s' hDn h
      obtain ⟨hi, rfl⟩ := range_int hx
      rw [Int.zero_add]
      refine ⟨_, rfl, _, rfl, b, l, G, cs, past, ((i : Nat) : Int), rfl, B.same s', ?_⟩
      rw [if_pos ⟨by omega, by have : i < 128 := hi; omega⟩]
      intro p H2 ws s2 np hp st
      exact h H2 _ s2 (fun z => hDn (by injection z with z; rw [← z]; exact np)) ⟨p, ws, rfl, hp, st _ (nm_perm cs) (nm_sorted cs)⟩
    · intro H' ys s' hD' pr
      rw [range_len, List.filter_eq_self.mpr (fun _ _ => rfl)] at pr
      refine q _ H' ys s' hD hD' ⟨by rw [← Paired.length pr, List.length_range]; rfl, fun i hi => ?_⟩
      obtain ⟨y, ey, _, qa, ws, rfl, e3, e4⟩ := Paired.at pr (List.getElem?_range (show i < (128 : Int).toNat from hi))
      exact ⟨qa, ws, ey, e3, e4⟩
/-- leads_on: is there a way on to a shape that the row has -/
def sp_leads : Sp := fun vs H Q _ => ∃ (a r : Addr) (ws : List V) (ps : List (Str × Int)) (row : List Bool), vs = [.ref a, .ref r] ∧ H a = some (.lst ws) ∧ StepsR H ws ps ∧ ps.length ≤ 1000 ∧ (∀ p ∈ ps, 0 ≤ p.2 ∧ p.2.toNat < row.length) ∧ H r = some (.lst (row.map V.bl)) ∧ ∀ H', Same H H' → Q (.bl (ps.any fun p => tr row p.2.toNat)) H'
theorem at_bool {row : List Bool} {t : Int} (h0 : 0 ≤ t) (h : t.toNat < row.length) : atI (row.map V.bl) t = some (.bl (tr row t.toNat)) := by
  refine atI_int h0 ?_
  rw [List.getElem?_map, List.getElem?_eq_getElem h]
  simp [tr, h]
theorem any_range {α : Type} (ps : List α) (f : α → Bool) (d : α) : ((List.range ps.length).map fun i => f (ps.getD i d)).any (fun b => b) = ps.any f := by
  rw [List.any_map]
  rw [Bool.eq_iff_iff, List.any_eq_true, List.any_eq_true]
  constructor
  · rintro ⟨i, hi, h⟩
    have hi := List.mem_range.mp hi
    refine ⟨ps[i], List.getElem_mem hi, ?_⟩
    have h : f (ps.getD i d) = true := h
    simpa [hi] using h
  · rintro ⟨x, hx, h⟩
    obtain ⟨i, hi, rfl⟩ := List.getElem_of_mem hx
    exact ⟨i, List.mem_range.mpr hi, by show f (ps.getD i d) = true; simpa [hi] using h⟩
theorem sc_leads_on : FnScope ["steps", "row"] ["steps", "row"] (defScope s_leads_on) := ⟨rfl, rfl, rfl, by decide +kernel, rfl, by decide +kernel, by decide +kernel⟩
theorem ok_leads (D : DefAt K mg "leads_on" s_leads_on) (T : Bn mg) : Callee P w K mg base "leads_on" 1 ["steps", "row"] sp_leads := by
  refine D.callee sc_leads_on (fun _ _ _ _ _ _ us hl => match us, hl with | [_, _], _ => rfl) (fun vs H Q E h => ?_) (fun f cdv A outer s H vs Q E hr h => ?_)
  · obtain ⟨a, r, ws, ps, row, rfl, _⟩ := h
    rfl
  · obtain ⟨a, r, ws, ps, row, rfl, ha, st, hl, hlt, hrow, q⟩ := h
    have S := sc_leads_on
    refine ⟨_, pss_one (ps_ret (pe_callB (call_any rfl) rfl T.n_any boot_any (pa_cons (pe_comp (own := ["step"]) (caps := [(1, "row")]) rfl ⟨rfl, rfl, rfl, rfl, ⟨⟨rfl, rfl, .inl rfl⟩, trivial⟩⟩ (pi_list (pv 0)) (fun _ _ _ _ _ _ => pg_name (i := 0) (nd_comp (by decide +kernel)) rfl (Or.inl rfl)) (fun _ _ _ _ _ _ => pts_nil) (fun _ _ _ _ _ _ => pe_ix (ix_list' K rfl) (pv 1) (pe_ix (ix_tup' K rfl) (pv 0) (pe_int) (fun _ _ => rfl)) (fun _ _ => rfl))) pa_nil))), ?_⟩
    have hlw := st.length
    refine ⟨_, rfl, _, rfl, ⟨_, SqL.of ha⟩, fun D hD => ?_⟩
    refine comp_i (capv := [some (.ref r)]) (by rfl) (gives_list K a ws) (big (by omega)) hD (fun H' s' => SqL.of (s' _ _ ha)) (fun _ => true) (fun i => .bl (tr row (ps.getD i ("", 0)).2.toNat)) (fun _ _ _ => nofun) (fun i x hx H R s' h => h H (Same.refl _)) ?_ ?_
    · intro i x hx _ H' R s' h
      have hi : i < ps.length := by rw [← hlw]; exact (List.getElem?_eq_some_iff.mp hx).1
      obtain ⟨qa, e1, e2⟩ := st.get (List.getElem?_eq_getElem hi)
      rw [hx] at e1
      cases e1
      obtain ⟨h0, h1⟩ := hlt ps[i] (List.getElem_mem hi)
      refine ⟨_, rfl, _, rfl, _, _, _, _, rfl, rfl, SqT.of (s' _ _ e2), at1, _, _, _, _, rfl, rfl, SqL.of (s' _ _ hrow), at_bool h0 h1, ?_⟩
      have := h H' (Same.refl _)
      simpa [hi] using this
    · intro H' s' e
      refine ⟨_, (List.range ws.length).map fun i => tr row (ps.getD i ("", 0)).2.toNat, rfl, SqL.of ?_, ?_⟩
      · rw [e, List.filter_eq_self.mpr (fun _ _ => rfl), List.map_map]
        rfl
      · have := q H' s'
        rw [← any_range ps _ ("", 0)] at this
        rw [hlw]
        exact this
/-- narrow_row: the next row -/
def sp_narrow : Sp := fun vs H Q _ => ∃ (a r : Addr) (ts : List V) (C : Combs) (row : List Bool), vs = [.ref a, .ref r] ∧ H a = some (.lst ts) ∧ TabR H ts C ∧ GC C ∧ C.length ≤ 8 ∧ H r = some (.lst (row.map V.bl)) ∧ row.length = 128 ∧ ∀ p H', Same H H' → H p = none → H' p = some (.lst ((nxtRow C row).map V.bl)) → Q (.ref p) H'
theorem sc_narrow_row : FnScope ["table", "row"] ["table", "row"] (defScope s_narrow_row) := ⟨rfl, rfl, rfl, by decide +kernel, rfl, by decide +kernel, by decide +kernel⟩
theorem ok_narrow (D : DefAt K mg "narrow_row" s_narrow_row) (T : Bn mg) (C_leads_on : Callee P w K mg base "leads_on" 1 ["steps", "row"] sp_leads) : Callee P w K mg base "narrow_row" 2 ["table", "row"] sp_narrow := by
  refine D.callee sc_narrow_row (fun _ _ _ _ _ _ us hl => match us, hl with | [_, _], _ => rfl) (fun vs H Q E h => ?_) (fun f cdv A outer s H vs Q E hr h => ?_)
  · obtain ⟨a, r, ts, C, row, rfl, _⟩ := h
    rfl
  · obtain ⟨a, r, ts, C, row, rfl, ha, tb, gc, h8, hrow, hrl, q⟩ := h
    have S := sc_narrow_row
    refine ⟨_, pss_one (ps_ret (pe_comp (own := ["steps"]) (caps := [(1, "row")]) rfl ⟨rfl, rfl, rfl, rfl, ⟨⟨rfl, rfl, .inl rfl⟩, trivial⟩⟩ (pi_list (pv 0)) (fun _ _ _ _ _ _ => pg_name (i := 0) (nd_comp (by decide +kernel)) rfl (Or.inl rfl)) (fun _ _ _ _ _ _ => pts_nil) (fun _ _ _ _ _ _ => pe_fn C_leads_on (hr.mono (by decide)) rfl (pa_cons (pv 0) (pa_cons (pv 1) pa_nil))))), ?_⟩
    refine ⟨_, rfl, _, rfl, ⟨_, SqL.of ha⟩, fun D hD => ?_⟩
    refine comp_i (capv := [some (.ref r)]) (by rfl) (gives_list K a ts) (by rw [tb.1]; exact big (by decide)) hD (fun H' s' => SqL.of (s' _ _ ha)) (fun _ => true) (fun i => .bl ((stp C i).any fun p => tr row p.2.toNat)) (fun _ _ _ => nofun) (fun i x hx H R s' h => h H (Same.refl _)) ?_ ?_
    · intro i x hx _ H' R s' h
      have hi : i < 128 := by rw [← tb.1]; exact (List.getElem?_eq_some_iff.mp hx).1
      obtain ⟨qa, ws, e1, e2, e3⟩ := (tb.same s').2 i hi
      rw [hx] at e1
      cases e1
      exact ⟨_, rfl, _, rfl, qa, r, ws, _, row, rfl, e2, e3, Nat.le_trans (stp_len h8 i) (by decide), fun p hp => by rw [hrl]; exact stp_lt gc hi hp, s' _ _ hrow, fun H2 s2 => h H2 s2⟩
    · intro H' s' e
      refine q D H' s' hD ?_
      rw [e, List.filter_eq_self.mpr (fun _ _ => rfl), tb.1]
      unfold nxtRow
      rw [List.map_map]
      rfl
/-- first_lasting_step: the first way on to a shape that the row has -/
def sp_first : Sp := fun vs H Q _ => ∃ (a r : Addr) (ws : List V) (ps : List (Str × Int)) (row : List Bool) (p : Str × Int), vs = [.ref a, .ref r] ∧ H a = some (.lst ws) ∧ StepsR H ws ps ∧ ps.length ≤ 1000 ∧ (∀ p ∈ ps, 0 ≤ p.2 ∧ p.2.toNat < row.length) ∧ H r = some (.lst (row.map V.bl)) ∧ ps.find? (fun p => tr row p.2.toNat) = some p ∧ ∀ x H', Same H H' → H' x = some (.tup [.str p.1, .int p.2]) → Q (.ref x) H'
theorem find_filter {α : Type} {ps : List α} {f : α → Bool} {p d : α} (h : ps.find? f = some p) : ∃ i, ((List.range ps.length).filter fun i => f (ps.getD i d))[0]? = some i ∧ ps[i]? = some p := by
  induction ps with
  | nil => cases h
  | cons x ps ih =>
    rw [List.length_cons, List.range_succ_eq_map, List.filter_cons]
    by_cases e : f x = true
    · rw [List.find?_cons_of_pos e] at h
      cases h
      exact ⟨0, by rw [if_pos (by simpa using e)]; rfl, rfl⟩
    · rw [List.find?_cons_of_neg e] at h
      obtain ⟨i, h1, h2⟩ := ih h
      refine ⟨i + 1, ?_, by simpa using h2⟩
      rw [if_neg (by simpa using e), List.filter_map, List.getElem?_map]
      show (((List.range ps.length).filter fun i => f (ps.getD i d))[0]?).map _ = _
      rw [h1]
      rfl
theorem sc_first_lasting_step : FnScope ["steps", "lasting"] ["steps", "lasting"] (defScope s_first_lasting_step) := ⟨rfl, rfl, rfl, by decide +kernel, rfl, by decide +kernel, by decide +kernel⟩
theorem ok_first (D : DefAt K mg "first_lasting_step" s_first_lasting_step) (T : Bn mg) : Callee P w K mg base "first_lasting_step" 1 ["steps", "lasting"] sp_first := by
  refine D.callee sc_first_lasting_step (fun _ _ _ _ _ _ us hl => match us, hl with | [_, _], _ => rfl) (fun vs H Q E h => ?_) (fun f cdv A outer s H vs Q E hr h => ?_)
  · obtain ⟨a, r, ws, ps, row, p, rfl, _⟩ := h
    rfl
  · obtain ⟨a, r, ws, ps, row, p, rfl, ha, st, hl, hlt, hrow, hf, q⟩ := h
    have S := sc_first_lasting_step
    refine ⟨_, pss_one (ps_ret (pe_ix ix_list (pe_comp (own := ["step"]) (caps := [(1, "lasting")]) rfl ⟨rfl, rfl, rfl, rfl, ⟨⟨rfl, rfl, .inl rfl⟩, trivial⟩⟩ (pi_list (pv 0)) (fun _ _ _ _ _ _ => pg_name (i := 0) (nd_comp (by decide +kernel)) rfl (Or.inl rfl)) (fun _ _ _ _ _ _ => pts_one (pt_val (pe_ix (ix_list' K rfl) (pv 1) (pe_ix (ix_tup' K rfl) (pv 0) (pe_int) (fun _ _ => rfl)) (fun _ _ => rfl)))) (fun _ _ _ _ _ _ => pv 0)) (pe_int) (fun _ _ => rfl))), ?_⟩
    have hlw := st.length
    refine ⟨_, rfl, _, rfl, ⟨_, SqL.of ha⟩, fun D hD => ?_⟩
    have hne : ∀ i, i < ws.length → ws.getD i .non ≠ .ref D := fun i hi z => by
      obtain ⟨qa, e1, e2⟩ := st.get (List.getElem?_eq_getElem (show i < ps.length by omega))
      rw [List.getD_eq_getElem?_getD, e1] at z
      cases z
      rw [hD] at e2
      cases e2
    refine comp_i (capv := [some (.ref r)]) (by rfl) (gives_list K a ws) (big (by omega)) hD (fun H' s' => SqL.of (s' _ _ ha)) (fun i => tr row (ps.getD i ("", 0)).2.toNat) (fun i => ws.getD i .non) (fun i hi _ => hne i hi) ?_ ?_ ?_
    · intro i x hx H' R s' h
      have hi : i < ps.length := by rw [← hlw]; exact (List.getElem?_eq_some_iff.mp hx).1
      obtain ⟨qa, e1, e2⟩ := st.get (List.getElem?_eq_getElem hi)
      rw [hx] at e1
      cases e1
      obtain ⟨h0, h1⟩ := hlt ps[i] (List.getElem_mem hi)
      refine ⟨_, rfl, _, rfl, _, _, _, _, rfl, rfl, SqT.of (s' _ _ e2), at1, _, _, _, _, rfl, rfl, SqL.of (s' _ _ hrow), at_bool h0 h1, _, rfl, ?_⟩
      have := h H' (Same.refl _)
      simpa [hi] using this
    · intro i x hx _ H' R s' h
      refine ⟨_, rfl, ?_⟩
      have := h H' (Same.refl _)
      rw [List.getD_eq_getElem?_getD, hx] at this
      exact this
    · intro H' s' e
      obtain ⟨i, h1, h2⟩ := find_filter (d := (("", 0) : Str × Int)) hf
      rw [hlw] at e
      obtain ⟨qa, e1, e2⟩ := st.get h2
      refine ⟨_, _, _, _, rfl, rfl, SqL.of e, atI_nat (j := 0) ?_, q qa H' s' (s' _ _ e2)⟩
      rw [List.getElem?_map, h1, Option.map_some, List.getD_eq_getElem?_getD, e1]
      rfl
--CUT--
def sp_rows : Sp := fun vs H Q _ => ∃ (a : Addr) (ts : List V) (C : Combs), vs = [.ref a] ∧ H a = some (.lst ts) ∧ TabR H ts C ∧ GC C ∧ C.length ≤ 8 ∧ ∀ p H' ws m, Same H H' → H p = none → H' p = some (.lst ws) → RowsR H' ws C m → nxtRow C (rowAt C m) = rowAt C m → m ≤ 128 → Q (.ref p) H'
theorem sc_rows_going_on : FnScope ["table", "rows", "narrowed"] ["table"] (defScope s_rows_going_on) := ⟨rfl, rfl, rfl, by decide +kernel, rfl, by decide +kernel, by decide +kernel⟩
theorem ok_rows (D : DefAt K mg "rows_going_on" s_rows_going_on) (T : Bn mg) (C_narrow_row : Callee P w K mg base "narrow_row" 2 ["table", "row"] sp_narrow) : Callee P w K mg base "rows_going_on" 3 ["table"] sp_rows := by
  refine D.callee sc_rows_going_on (fun _ _ _ _ _ _ us hl => match us, hl with | [_], _ => rfl) (fun vs H Q E h => ?_) (fun f cdv A outer s H vs Q E hr h => ?_)
  · obtain ⟨a, ts, C, rfl, _⟩ := h
    rfl
  · obtain ⟨a, ts, C, rfl, ha, tb, gc, h8, q⟩ := h
    have S := sc_rows_going_on
    refine ⟨_, pss_cons (ps_set (i := 1) S.nd rfl (Or.inl rfl) (pe_lst (pa_cons (pe_comp (own := ["steps"]) (caps := []) rfl ⟨rfl, rfl, rfl, rfl, trivial⟩ (pi_list (pv 0)) (fun _ _ _ _ _ _ => pg_name (i := 0) (nd_comp (by decide +kernel)) rfl (Or.inl rfl)) (fun _ _ _ _ _ _ => pts_nil) (fun _ _ _ _ _ _ => pe_bl)) pa_nil)))
    (pss_cons (ps_set (i := 2) S.nd rfl (Or.inl rfl) (pe_fn C_narrow_row (hr.mono (by decide)) rfl (pa_cons (pv 0) (pa_cons (pe_ix ix_list (pv 1) (pe_un un_neg (pe_int)) (fun _ _ => rfl)) pa_nil))))
    (pss_cons (ps_while PassesOwn.never (pt_cmpR (op_neD hr.units) (pv 2) (pe_ix ix_list (pv 1) (pe_un un_neg (pe_int)) (fun _ _ => rfl)) (nomark _))
      (pss_cons (ps_expr (pe_bm PySem.F.plainAttrs_list PySem.F.slot_list_append PySem.F.type_list_append mt_append (pv 1) (pa_cons (pv 2) pa_nil)))
      (pss_one (ps_set (i := 2) S.nd rfl (Or.inl rfl) (pe_fn C_narrow_row (hr.mono (by decide)) rfl (pa_cons (pv 0) (pa_cons (pe_ix ix_list (pv 1) (pe_un un_neg (pe_int)) (fun _ _ => rfl)) pa_nil)))))))
    (pss_one (ps_ret (pv 1))))), ?_⟩
    refine ⟨_, rfl, _, rfl, ⟨_, SqL.of ha⟩, fun D hD => ?_⟩
    refine comp_i (capv := []) (by rfl) (gives_list K a ts) (by rw [tb.1]; exact big (by decide)) hD (fun H' s' => SqL.of (s' _ _ ha)) (fun _ => true) (fun _ => .bl true) (fun _ _ _ => nofun) (fun i x hx H R s' h => h H (Same.refl _)) (fun i x hx _ H R s' h => h H (Same.refl _)) ?_
    intro H1 s1 e1
    have e1 : H1 D = some (.lst ((rowAt C 0).map V.bl)) := by
      rw [e1, List.filter_eq_self.mpr (fun _ _ => rfl), tb.1]
      rfl
    refine ⟨bigr rfl, fun p np => ?_⟩
    have s2 : Same H1 (upd H1 p (.lst [.ref D])) := Same.new np
    have rr : RowsR (upd H1 p (.lst [.ref D])) [.ref D] C 0 := ⟨rfl, fun i hi => ⟨D, by rw [show i = 0 by omega]; rfl, by rw [show i = 0 by omega]; exact s2 _ _ e1⟩⟩
    have s02 := s1.trans s2
    have np0 : H p = none := s1.free np
    have hp2 : upd H1 p (.lst [.ref D]) p = some (.lst [.ref D]) := upd_same
    generalize upd H1 p (.lst [.ref D]) = H2 at s2 rr s02 hp2
    refine ⟨_, rfl, _, rfl, _, rfl, _, _, _, _, rfl, rfl, SqL.of hp2, at_end rr.1 rfl, ?_⟩
    refine ⟨a, D, ts, C, rowAt C 0, rfl, s02 _ _ ha, tb.same s02, gc, h8, s2 _ _ e1, row_length C 0, fun p3 H3 s3 np3 hp3 => ?_⟩
    refine ⟨fun k σ Hx => ∃ m ws qn, σ = [some (.ref a), some (.ref p), some (.ref qn)] ∧ Same H Hx ∧ Hx p = some (.lst ws) ∧ RowsR Hx ws C m ∧ (rowAt C m).count true + m ≤ 128 ∧ Hx qn = some (.lst ((rowAt C (m + 1)).map V.bl)) ∧ k = (rowAt C m).count true, ⟨_, 0, _, p3, rfl, s02.trans s3, s3 _ _ hp2, rr.same s3, ?_, hp3, rfl⟩, ?_⟩
    · have := List.count_le_length (a := true) (l := rowAt C 0)
      rw [row_length] at this
      omega
    rintro k σ Hx ⟨m, ws, qn, rfl, sx, hpx, rx, hcx, hqn, rfl⟩
    obtain ⟨ql, el1, el2⟩ := rx.2 m (Nat.le_refl _)
    refine ⟨_, rfl, _, rfl, _, rfl, _, _, _, _, rfl, rfl, SqL.of hpx, at_end rx.1 el1, _, _, vd_bools hqn, vd_bools el2, shaped_bools _, shaped_bools _, _, rfl, ?_⟩
    rw [if_pos rfl, eqv_bools]
    by_cases e : rowAt C (m + 1) = rowAt C m
    · rw [decide_eq_true e]
      refine iteF ?_
      exact ⟨_, rfl, q p Hx ws m sx np0 hpx rx e (by omega)⟩
    · rw [decide_eq_false e]
      refine iteT ?_
      have less := row_less gc e
      refine ⟨fun σ' H' => ∃ m', m' < (rowAt C m).count true ∧ ∃ mm ws qn, σ' = [some (.ref a), some (.ref p), some (.ref qn)] ∧ Same H H' ∧ H' p = some (.lst ws) ∧ RowsR H' ws C mm ∧ (rowAt C mm).count true + mm ≤ 128 ∧ H' qn = some (.lst ((rowAt C (mm + 1)).map V.bl)) ∧ m' = (rowAt C mm).count true, fun σ' H' h => h, ?_⟩
      have hwl := rx.1
      refine ⟨_, rfl, .inl ⟨rfl, _, SqL.of hpx⟩, _, rfl, p, ws, _, rfl, rfl, hpx, Nat.lt_of_lt_of_le (by omega : ws.length < 1000) sizeBig, ?_⟩
      have rs := rx.snoc hpx hqn
      have sp := sx.put (o := .lst (ws ++ [.ref qn])) np0
      have hp4 : upd Hx p (.lst (ws ++ [.ref qn])) p = some (.lst (ws ++ [.ref qn])) := upd_same
      generalize upd Hx p (.lst (ws ++ [.ref qn])) = H4 at rs sp hp4
      obtain ⟨ql', el1', el2'⟩ := rs.2 (m + 1) (Nat.le_refl _)
      refine ⟨_, rfl, _, rfl, _, rfl, _, _, _, _, rfl, rfl, SqL.of hp4, at_end rs.1 el1', ?_⟩
      refine ⟨a, ql', ts, C, rowAt C (m + 1), rfl, sp _ _ ha, tb.same sp, gc, h8, el2', row_length C _, fun p5 H5 s5 np5 hp5 => ?_⟩
      exact ⟨_, less, m + 1, _, p5, rfl, sp.trans s5, s5 _ _ hp4, rs.same s5, by omega, hp5, rfl⟩
--CUT--
def sp_walk : Sp := fun vs H Q _ => ∃ (a r : Addr) (ts : List V) (C : Combs) (row : List Bool) (s : Nat), vs = [.ref a, .ref r, .int (s : Int)] ∧ H a = some (.lst ts) ∧ TabR H ts C ∧ GC C ∧ C.length ≤ 8 ∧ H r = some (.lst (row.map V.bl)) ∧ row.length = 128 ∧ nxtRow C row = row ∧ s < 128 ∧ tr row s = true ∧
  ∀ t ls pl start n ws H', Same H H' → start < n → n ≤ 128 → wk C row s n = wk C row s start → ((List.range n).map (wk C row s)).Nodup → H' t = some (.tup [.int (start : Nat), .ref ls, .ref pl]) → H' ls = some (.lst ((List.range n).map fun j => V.int (wk C row s j : Nat))) → H' pl = some (.lst ws) → LaysR H' ws (wn C row s) n → Q (.ref t) H'
theorem sc_walk_round : FnScope ["table", "lasting", "shape", "seen", "layings", "place", "step"] ["table", "lasting", "shape"] (defScope s_walk_round) := ⟨rfl, rfl, rfl, by decide +kernel, rfl, by decide +kernel, by decide +kernel⟩
theorem ok_walk (D : DefAt K mg "walk_round" s_walk_round) (T : Bn mg) (C_first_lasting_step : Callee P w K mg base "first_lasting_step" 1 ["steps", "lasting"] sp_first) : Callee P w K mg base "walk_round" 2 ["table", "lasting", "shape"] sp_walk := by
  refine D.callee sc_walk_round (fun _ _ _ _ _ _ us hl => match us, hl with | [_, _, _], _ => rfl) (fun vs H Q E h => ?_) (fun f cdv A outer s H vs Q E hr h => ?_)
  · obtain ⟨a, r, ts, C, row, s0, rfl, _⟩ := h
    rfl
  · obtain ⟨a, r, ts, C, row, s0, rfl, ha, tb, gc, h8, hrow, hrl, hst, hs0, ht0, q⟩ := h
    have S := sc_walk_round
    have hu := hu_of hr
    have wok := wk_ok gc hst hs0 ht0
    refine ⟨_, pss_cons (ps_set (i := 3) S.nd rfl (Or.inl rfl) (pe_dnewK))
    (pss_cons (ps_set (i := 4) S.nd rfl (Or.inl rfl) (pe_lst (pa_nil)))
    (pss_cons (ps_while PassesOwn.never (pt_cmp (pc_dnotin hu (pv 2) (pv 3)))
      (pss_cons (ps_set (i := 5) S.nd rfl (Or.inl rfl) (pe_callB call_lenD rfl T.n_len PySem.boot_len (pa_cons (pv 3) pa_nil)))
      (pss_cons (ps_dput hu (pv 3) (pv 2) (pv 5) rfl)
      (pss_cons (ps_set (i := 6) S.nd rfl (Or.inl rfl) (pe_fn C_first_lasting_step (hr.mono (by decide)) rfl (pa_cons (pe_ix ix_list (pv 0) (pv 2) (fun _ _ => rfl)) (pa_cons (pv 1) pa_nil))))
      (pss_cut (ps_if (pt_cmpR op_ne (pe_ix ix_tup (pv 6) (pe_int) (fun _ _ => rfl)) (pe_str) (nomark _))
        (pss_one (ps_expr (pe_bm PySem.F.plainAttrs_list PySem.F.slot_list_append PySem.F.type_list_append mt_append (pv 4) (pa_cons (pe_tup (pa_cons (pv 5) (pa_cons (pe_ix ix_tup (pv 6) (pe_int) (fun _ _ => rfl)) pa_nil))) pa_nil))))
        (pss_nil))
      (pss_one (ps_set (i := 2) S.nd rfl (Or.inl rfl) (pe_ix ix_tup (pv 6) (pe_int) (fun _ _ => rfl)))))))))
    (pss_one (ps_ret (pe_tup (pa_cons (pe_dget hu (pv 3) (pv 2) (fun _ _ => rfl)) (pa_cons (pe_callTy (call_listD rfl) rfl T.n_list boot_list (pa_cons (pv 3) pa_nil)) (pa_cons (pv 4) pa_nil)))))))), ?_⟩
    refine fun sd nsd => ⟨bigr rfl, fun pl npl => ?_⟩
    have s1 : Same H (upd H sd (.dK [])) := Same.new nsd
    have npl0 : H pl = none := s1.free npl
    have nps : pl ≠ sd := fun z => by rw [z, upd_same] at npl; cases npl
    have s2 : Same H (upd (upd H sd (.dK [])) pl (.lst [])) := s1.trans (Same.new npl)
    refine ⟨fun k σ Hx => ∃ i ws x5 x6, σ = [some (.ref a), some (.ref r), some (.int (wk C row s0 i : Nat)), some (.ref sd), some (.ref pl), x5, x6] ∧ Same H Hx ∧ Hx sd = some (.dK (seenK (wk C row s0) i)) ∧ Hx pl = some (.lst ws) ∧ LaysR Hx ws (wn C row s0) i ∧ ((List.range i).map (wk C row s0)).Nodup ∧ k = 128 - i, ⟨128, 0, [], _, _, rfl, s2, (by rw [upd_ne nps.symm]; exact upd_same), upd_same, .nil, List.nodup_nil, rfl⟩, ?_⟩
    rintro k σ Hx ⟨i, ws, x5, x6, rfl, sx, hsd, hpl, lr, nd, rfl⟩
    refine ⟨_, rfl, _, rfl, sd, _, rfl, DGet.k (k := Sum.inl _) hsd, _, rfl, ?_⟩
    rw [seenK_val]
    have h128 : i ≤ 128 := by
      have := nodup_bound 128 _ nd (fun x hx => by obtain ⟨j, _, rfl⟩ := List.mem_map.mp hx; exact (wok j).1)
      rwa [List.length_map, List.length_range] at this
    cases ef : (List.range i).find? fun j => decide (wk C row s0 j = wk C row s0 i) with
    | some j =>
      refine iteF ?_
      have hj : j < i := List.mem_range.mp (List.mem_of_find?_eq_some ef)
      have ej : wk C row s0 j = wk C row s0 i := by have := List.find?_some ef; simpa using this
      have ev : valV (seenK (wk C row s0) i) (Sum.inl ((wk C row s0 i : Nat) : Int)) = some (.int (j : Int)) := by rw [seenK_val, ef]; rfl
      have dg : DGet Hx sd (kV (Sum.inl ((wk C row s0 i : Nat) : Int))) (some (.int (j : Int))) := by rw [← ev]; exact DGet.k hsd
      refine ⟨_, rfl, _, rfl, sd, _, rfl, dg, _, rfl, sd, _, rfl, .inl hsd, fun ls nls => ?_⟩
      have s3 : Same Hx (upd Hx ls (.lst ((seenK (wk C row s0) i).map fun kv => kV kv.1))) := Same.new nls
      refine ⟨_, rfl, bigr rfl, fun t nt => ?_⟩
      refine q t ls pl j i ws _ ((sx.trans s3).trans (Same.new nt)) hj h128 ej.symm nd upd_same ?_ ?_ ?_
      · rw [upd_ne (ne_of_none (upd_same (H := Hx) (a := ls)) nt), upd_same]
        unfold seenK
        rw [List.map_map]
        rfl
      · exact Same.new nt _ _ (s3 _ _ hpl)
      · exact lr.mono fun qa xs e => Same.new nt _ _ (s3 _ _ e)
    | none =>
      refine iteT ?_
      have hno : ∀ j, j < i → wk C row s0 j ≠ wk C row s0 i := fun j hj => by
        have := List.find?_eq_none.mp ef j (List.mem_range.mpr hj)
        simpa using this
      have nd' : ((List.range (i + 1)).map (wk C row s0)).Nodup := by
        rw [List.range_succ, List.map_append]
        refine List.nodup_append.mpr ⟨nd, by simp, fun x hx y hy => ?_⟩
        obtain ⟨j, hj, rfl⟩ := List.mem_map.mp hx
        rw [List.map_cons, List.map_nil, List.mem_singleton] at hy
        rw [hy]
        exact hno j (List.mem_range.mp hj)
      have h129 : i + 1 ≤ 128 := by
        have := nodup_bound 128 _ nd' (fun x hx => by obtain ⟨j, _, rfl⟩ := List.mem_map.mp hx; exact (wok j).1)
        rwa [List.length_map, List.length_range] at this
      have ev : valV (seenK (wk C row s0) i) (Sum.inl ((wk C row s0 i : Nat) : Int)) = none := by rw [seenK_val, ef]; rfl
      refine ⟨fun σ' H' => ∃ m', m' < 128 - i ∧ ∃ i ws x5 x6, σ' = [some (.ref a), some (.ref r), some (.int (wk C row s0 i : Nat)), some (.ref sd), some (.ref pl), x5, x6] ∧ Same H H' ∧ H' sd = some (.dK (seenK (wk C row s0) i)) ∧ H' pl = some (.lst ws) ∧ LaysR H' ws (wn C row s0) i ∧ ((List.range i).map (wk C row s0)).Nodup ∧ m' = 128 - i, fun _ _ h => h, ?_⟩
      refine ⟨_, rfl, _, _, rfl, hsd, ?_⟩
      rw [seenK_len]
      refine ⟨_, rfl, _, rfl, _, rfl, sd, _, rfl, DPut.k (k := Sum.inl _) hsd ?_, ?_⟩
      · rw [seenK_len]; exact Nat.lt_of_lt_of_le (by omega : i < 1000) sizeBig
      rw [putK_new _ ev, ← seenK_succ]
      have s3 := sx.put (o := .dK (seenK (wk C row s0) (i + 1))) nsd
      have hsd3 : upd Hx sd (.dK (seenK (wk C row s0) (i + 1))) sd = some (.dK (seenK (wk C row s0) (i + 1))) := upd_same
      have hpl3 : upd Hx sd (.dK (seenK (wk C row s0) (i + 1))) pl = some (.lst ws) := by rw [upd_ne nps]; exact hpl
      have lr3 : LaysR (upd Hx sd (.dK (seenK (wk C row s0) (i + 1)))) ws (wn C row s0) i := lr.mono fun qa xs e => by rw [upd_ne (fun z => by rw [z, hsd] at e; cases e)]; exact e
      generalize upd Hx sd (.dK (seenK (wk C row s0) (i + 1))) = H3 at s3 hsd3 hpl3 lr3
      obtain ⟨qs, wss, e1, e2, e3⟩ := (tb.same s3).2 _ (wok i).1
      refine ⟨_, rfl, _, rfl, _, _, _, _, rfl, rfl, SqL.of (s3 _ _ ha), atI_nat e1, _, rfl, ?_⟩
      refine ⟨qs, r, wss, stp C (wk C row s0 i), row, _, rfl, e2, e3, Nat.le_trans (stp_len h8 _) (by decide), fun p hp => by rw [hrl]; exact stp_lt gc (wok i).1 hp, s3 _ _ hrow, wk_step gc hst hs0 ht0 i, fun x H4 s4 hx => ?_⟩
      have s04 := s3.trans s4
      refine ⟨fun σ' H' => ∃ ws, σ' = [some (.ref a), some (.ref r), some (.int (wk C row s0 i : Nat)), some (.ref sd), some (.ref pl), some (.int (i : Int)), some (.ref x)] ∧ Same H H' ∧ H' sd = some (.dK (seenK (wk C row s0) (i + 1))) ∧ H' pl = some (.lst ws) ∧ LaysR H' ws (wn C row s0) (i + 1) ∧ H' x = some (.tup [.str (wn C row s0 i), .int (wk C row s0 (i + 1) : Nat)]), ?_, ?_⟩
      · refine ⟨_, rfl, _, _, _, _, rfl, rfl, SqT.of hx, at0, rfl, _, rfl, ?_⟩
        by_cases e : wn C row s0 i = Str.ofString ""
        · rw [decide_eq_true (by rw [e])]
          refine iteF ?_
          exact ⟨ws, rfl, s04, s4 _ _ hsd3, s4 _ _ hpl3, (lr3.mono fun qa xs e => s4 _ _ e).skip e, hx⟩
        · rw [decide_eq_false (fun z => e (by injection z))]
          refine iteT ?_
          refine ⟨_, rfl, .inl ⟨rfl, _, SqL.of (s4 _ _ hpl3)⟩, _, rfl, _, rfl, _, _, _, _, rfl, rfl, SqT.of hx, at0, bigr rfl, fun t nt => ?_⟩
          have s5 : Same H4 (upd H4 t (.tup [.int (i : Int), .str (wn C row s0 i)])) := Same.new nt
          have hpl5 := s5 _ _ (s4 _ _ hpl3)
          have hsd5 := s5 _ _ (s4 _ _ hsd3)
          have hx5 := s5 _ _ hx
          have lr5 := lr3.mono fun qa xs e => s5 _ _ (s4 _ _ e)
          have ht5 : upd H4 t (.tup [.int (i : Int), .str (wn C row s0 i)]) t = some (.tup [.int (i : Int), .str (wn C row s0 i)]) := upd_same
          have s05 := s04.trans s5
          generalize upd H4 t (.tup [.int (i : Int), .str (wn C row s0 i)]) = H5 at hpl5 hsd5 hx5 lr5 ht5 s05
          have hlen := lr5.len
          refine ⟨pl, ws, _, rfl, rfl, hpl5, Nat.lt_of_lt_of_le (by omega : ws.length < 1000) sizeBig, ?_⟩
          have ne : ∀ {qa : Addr} {xs : List V}, H5 qa = some (.tup xs) → qa ≠ pl := fun e z => by rw [z, hpl5] at e; cases e
          refine ⟨ws ++ [.ref t], rfl, s05.put npl0, (by rw [upd_ne nps.symm]; exact hsd5), upd_same, ?_, (by rw [upd_ne (ne hx5)]; exact hx5)⟩
          exact (lr5.mono fun qa xs e => by rw [upd_ne (ne e)]; exact e).snoc e (by rw [upd_ne (ne ht5)]; exact ht5)
      · rintro σ' H5 ⟨ws', rfl, s5, hsd5, hpl5, lr5, hx5⟩
        refine ⟨_, rfl, _, _, _, _, rfl, rfl, SqT.of hx5, at1, ?_⟩
        exact ⟨_, (by omega : 128 - (i + 1) < 128 - i), i + 1, ws', _, _, rfl, s5, hsd5, hpl5, lr5, nd', rfl⟩
--CUT--
def LineR (H : Hp) (t : Addr) (C : Combs) : Prop :=
  (∃ sp f nm ps pl ws, LineD C sp f nm ∧ H t = some (.tup [.str (Str.ofString "filled"), .int (sp : Nat), .ref ps, .ref pl]) ∧ H ps = some (.lst ((List.range sp).map fun k => V.int (f k : Nat))) ∧ H pl = some (.lst ws) ∧ LaysR H ws nm sp) ∨
  (∃ m pc, StuckD C m ∧ m ≤ 128 ∧ H t = some (.tup [.str (Str.ofString "stuck"), .ref pc]) ∧ H pc = some (.lst ((List.range 128).map fun s => V.int ((cntD C m s : Nat) - 1))))
theorem LineR.same {H H' : Hp} {t : Addr} {C : Combs} (h : LineR H t C) (s : Same H H') : LineR H' t C := by
  rcases h with ⟨sp, f, nm, ps, pl, ws, a, b, c, d, e⟩ | ⟨m, pc, a, b, c, d⟩
  · exact .inl ⟨sp, f, nm, ps, pl, ws, a, s _ _ b, s _ _ c, s _ _ d, e.mono fun _ _ z => s _ _ z⟩
  · exact .inr ⟨m, pc, a, b, s _ _ c, s _ _ d⟩
theorem at3 {x y z : V} : atI [x, y, z] 0 = some x ∧ atI [x, y, z] 1 = some y ∧ atI [x, y, z] 2 = some z := ⟨show atI _ ((0 : Nat) : Int) = _ from atI_nat rfl, show atI _ ((1 : Nat) : Int) = _ from atI_nat rfl, show atI _ ((2 : Nat) : Int) = _ from atI_nat rfl⟩
def sp_filled : Sp := fun vs H Q _ => ∃ (t ls pl : Addr) (st n : Nat) (f : Nat → Nat) (nm : Nat → Str) (ws : List V), vs = [.ref t] ∧ H t = some (.tup [.int (st : Nat), .ref ls, .ref pl]) ∧ H ls = some (.lst ((List.range n).map fun j => V.int (f j : Nat))) ∧ H pl = some (.lst ws) ∧ LaysR H ws nm n ∧ st < n ∧ n ≤ 128 ∧
  ∀ p ps pq ws' H', Same H H' → H' p = some (.tup [.str (Str.ofString "filled"), .int ((n - st : Nat) : Int), .ref ps, .ref pq]) → H' ps = some (.lst ((List.range (n - st)).map fun k => V.int (f (st + k) : Nat))) → H' pq = some (.lst ws') → LaysR H' ws' (fun k => nm (st + k)) (n - st) → Q (.ref p) H'
theorem cut_from {n st : Nat} (h : st ≤ n) (g : Nat → V) : cutV ((List.range n).map g) (some (st : Int)) none = (List.range (n - st)).map fun k => g (st + k) := by
  unfold cutV
  rw [List.length_map, List.length_range, HT.sIx_nat, HT.sIx_none, Nat.min_eq_left h]
  have e : List.range n = List.range st ++ (List.range (n - st)).map fun k => st + k := by
    rw [← List.range_add]
    congr 1
    omega
  rw [e, List.map_append, List.drop_append_of_le_length (by simp), List.drop_eq_nil_of_le (by simp), List.nil_append, List.map_map]
  refine List.take_of_length_le ?_
  simp
theorem sc_filled_line : FnScope ["walk", "start", "shapes", "layings"] ["walk"] (defScope s_filled_line) := ⟨rfl, rfl, rfl, by decide +kernel, rfl, by decide +kernel, by decide +kernel⟩
theorem ok_filled (D : DefAt K mg "filled_line" s_filled_line) (T : Bn mg) : Callee P w K mg base "filled_line" 1 ["walk"] sp_filled := by
  refine D.callee sc_filled_line (fun _ _ _ _ _ _ us hl => match us, hl with | [_], _ => rfl) (fun vs H Q E h => ?_) (fun f cdv A outer s H vs Q E hr h => ?_)
  · obtain ⟨t, ls, pl, st, n, f, nm, ws, rfl, _⟩ := h
    rfl
  · obtain ⟨t, ls, pl, st, n, fs, nm, ws, rfl, ht, hls, hpl, lr, hst, hn, q⟩ := h
    have S := sc_filled_line
    refine ⟨_, pss_cons (ps_set (i := 1) S.nd rfl (Or.inr rfl) (pe_ix ix_tup (pv 0) (pe_int) (fun _ _ => rfl)))
    (pss_cons (ps_set (i := 2) S.nd rfl (Or.inl rfl) (pe_slice sl_list (pe_ix ix_tup (pv 0) (pe_int) (fun _ _ => rfl)) (po_some (pv 1)) (po_none)))
    (pss_cons (ps_setC (i := 3) S.nd rfl (Or.inl rfl) (own := ["laying"]) (caps := [(1, "start")]) rfl ⟨rfl, rfl, rfl, rfl, ⟨⟨rfl, rfl, .inl rfl⟩, trivial⟩⟩ (pi_list (pe_ix ix_tup (pv 0) (pe_int) (fun _ _ => rfl))) (fun _ _ _ _ _ _ => pg_name (i := 0) (nd_comp (by decide +kernel)) rfl (Or.inl rfl)) (fun _ _ _ _ _ _ => pts_one (pt_cmpR op_ge (pe_ix (ix_tup' K rfl) (pv 0) (pe_int) (fun _ _ => rfl)) (pv 1) (nomark _))) (fun _ _ _ _ _ _ => pe_tup (pa_cons (pe_op op_sub (pe_ix (ix_tup' K rfl) (pv 0) (pe_int) (fun _ _ => rfl)) (pv 1)) (pa_cons (pe_ix (ix_tup' K rfl) (pv 0) (pe_int) (fun _ _ => rfl)) pa_nil))))
    (pss_one (ps_ret (pe_tup (pa_cons (pe_str) (pa_cons (pe_callB call_len_seq rfl T.n_len PySem.boot_len (pa_cons (pv 2) pa_nil)) (pa_cons (pv 2) (pa_cons (pv 3) pa_nil))))))))), ?_⟩
    refine ⟨_, rfl, _, _, _, _, rfl, rfl, SqT.of ht, at3.1, ?_⟩
    refine ⟨_, rfl, _, _, _, _, rfl, rfl, SqT.of ht, at3.2.1, _, rfl, _, rfl, _, _, rfl, SqL.of hls, fun ps nps => ?_⟩
    rw [cut_from (by omega)]
    have s1 : Same H (upd H ps (.lst ((List.range (n - st)).map fun k => V.int (fs (st + k) : Nat)))) := Same.new nps
    have hps : upd H ps (.lst ((List.range (n - st)).map fun k => V.int (fs (st + k) : Nat))) ps = some (.lst ((List.range (n - st)).map fun k => V.int (fs (st + k) : Nat))) := upd_same
    generalize upd H ps (.lst ((List.range (n - st)).map fun k => V.int (fs (st + k) : Nat))) = H1 at s1 hps
    have lr1 := lr.mono fun _ _ e => s1 _ _ e
    refine ⟨_, rfl, _, _, _, _, rfl, rfl, SqT.of (s1 _ _ ht), at3.2.2, _, rfl, ⟨_, SqL.of (s1 _ _ hpl)⟩, fun D hD => ?_⟩
    have hlen := lr.len
    have hll := Paired.length lr
    refine comp_x (capv := [some (.int (st : Nat))]) (by rfl) (gives_list K pl ws) (big (by omega)) hD (fun H' s' => SqL.of (s' _ _ (s1 _ _ hpl))) (fun i => decide (st ≤ ((List.range n).filter fun j => decide (nm j ≠ Str.ofString "")).getD i 0)) (fun H i v => ∃ qa, v = .ref qa ∧ H qa = some (.tup [.int ((((List.range n).filter fun j => decide (nm j ≠ Str.ofString "")).getD i 0 : Nat) - (st : Nat) : Int), .str (nm (((List.range n).filter fun j => decide (nm j ≠ Str.ofString "")).getD i 0))])) ?_ ?_ ?_ ?_ ?_
    · rintro H2 H3 i v s' ⟨qa, e1, e2⟩
      exact ⟨qa, e1, s' _ _ e2⟩
    · rintro H2 i v l' l'' hv hH ⟨qa, e1, e2⟩
      exact ⟨qa, e1, by rw [upd_ne (fun z => by rw [z, hH] at e2; cases e2)]; exact e2⟩
    · intro i x hx H2 R s' h
      have hi : i < ((List.range n).filter fun j => decide (nm j ≠ Str.ofString "")).length := by rw [hll]; exact (List.getElem?_eq_some_iff.mp hx).1
      obtain ⟨y, ey, qa, rfl, e2⟩ := Paired.at lr1 (List.getElem?_eq_getElem hi)
      rw [hx] at ey
      cases ey
      refine ⟨_, rfl, _, _, _, _, rfl, rfl, SqT.of (s' _ _ e2), at0, _, rfl, _, _, rfl, rfl, _, rfl, ?_⟩
      have := h H2 (Same.refl _)
      rw [List.getD_eq_getElem?_getD, List.getElem?_eq_getElem hi, Option.getD_some] at this
      have e3 : (decide ((st : Int) ≤ ((((List.range n).filter fun j => decide (nm j ≠ Str.ofString ""))[i] : Nat) : Int))) = decide (st ≤ ((List.range n).filter fun j => decide (nm j ≠ Str.ofString ""))[i]) := by
        rw [decide_eq_decide]; omega
      rw [← e3] at this
      exact this
    · intro i x hx _ H2 R s' hDn h
      have hi : i < ((List.range n).filter fun j => decide (nm j ≠ Str.ofString "")).length := by rw [hll]; exact (List.getElem?_eq_some_iff.mp hx).1
      obtain ⟨y, ey, qa, rfl, e2⟩ := Paired.at lr1 (List.getElem?_eq_getElem hi)
      rw [hx] at ey
      cases ey
      refine ⟨_, rfl, _, _, _, _, rfl, rfl, SqT.of (s' _ _ e2), at0, _, rfl, _, _, rfl, rfl, _, rfl, _, _, _, _, rfl, rfl, SqT.of (s' _ _ e2), at1, bigr rfl, fun t' nt' => ?_⟩
      refine h _ _ (Same.new nt') (fun z => hDn (by injection z with z; rw [← z]; exact nt')) ⟨t', rfl, ?_⟩
      rw [upd_same, List.getD_eq_getElem?_getD, List.getElem?_eq_getElem hi, Option.getD_some]
    · intro H2 ys s2 hD2 pr
      refine ⟨_, rfl, _, _, rfl, .inl (SqL.of (s2 _ _ hps)), _, rfl, _, rfl, bigr rfl, fun p np => ?_⟩
      have s3 : Same H2 (upd H2 p (.tup [.str (Str.ofString "filled"), .int (((List.range (n - st)).map fun k => V.int (fs (st + k) : Nat)).length : Nat), .ref ps, .ref D])) := Same.new np
      refine q p ps D ys _ ((s1.trans s2).trans s3) (by rw [upd_same, List.length_map, List.length_range]) (s3 _ _ (s2 _ _ hps)) (s3 _ _ hD2) ?_
      unfold LaysR
      have rc := range_cut n st (by omega) (fun j => decide (nm j ≠ Str.ofString ""))
      show Paired _ ((List.range (n - st)).filter fun k => decide (nm (st + k) ≠ Str.ofString "")) ys
      rw [← rc, ← filter_idx ((List.range n).filter fun j => decide (nm j ≠ Str.ofString "")) (fun j => decide (st ≤ j)) 0, List.map_map, hll]
      have : ∀ {l : List Nat} {m : List V}, Paired (fun i y => y ≠ V.ref D ∧ ∃ qa, y = .ref qa ∧ H2 qa = some (.tup [.int ((((List.range n).filter fun j => decide (nm j ≠ Str.ofString "")).getD i 0 : Nat) - (st : Nat) : Int), .str (nm (((List.range n).filter fun j => decide (nm j ≠ Str.ofString "")).getD i 0))])) l m → (∀ i ∈ l, st ≤ ((List.range n).filter fun j => decide (nm j ≠ Str.ofString "")).getD i 0) →
          Paired (fun (j : Nat) (v : V) => ∃ qa, v = .ref qa ∧ upd H2 p (.tup [.str (Str.ofString "filled"), .int (((List.range (n - st)).map fun k => V.int (fs (st + k) : Nat)).length : Nat), .ref ps, .ref D]) qa = some (.tup [.int (j : Int), .str (nm (st + j))])) (l.map ((fun j => j - st) ∘ fun i => ((List.range n).filter fun j => decide (nm j ≠ Str.ofString "")).getD i 0)) m := by
        intro l m q'
        induction q' with
        | nil => intro _; exact .nil
        | @cons i y l m hh _ ih =>
          intro hall
          obtain ⟨_, qa, e1, e2⟩ := hh
          have hge := hall i List.mem_cons_self
          refine .cons ⟨qa, e1, ?_⟩ (ih fun j hj => hall j (List.mem_cons_of_mem _ hj))
          rw [s3 _ _ e2]
          show _ = some (HO.tup [V.int ((((List.range n).filter fun j => decide (nm j ≠ Str.ofString "")).getD i 0 - st : Nat) : Int), V.str (nm (st + (((List.range n).filter fun j => decide (nm j ≠ Str.ofString "")).getD i 0 - st)))])
          rw [show st + (((List.range n).filter fun j => decide (nm j ≠ Str.ofString "")).getD i 0 - st) = ((List.range n).filter fun j => decide (nm j ≠ Str.ofString "")).getD i 0 by omega, Int.ofNat_sub hge]
      exact this pr fun i hi => of_decide_eq_true (List.mem_filter.mp hi).2
/-- places_from -/
def sp_places : Sp := fun vs H Q _ => ∃ (p : Addr) (ws : List V) (C : Combs) (m s : Nat), vs = [.ref p, .int (s : Nat)] ∧ H p = some (.lst ws) ∧ RowsR H ws C m ∧ m ≤ 128 ∧ s < 128 ∧ ∀ H', Same H H' → Q (.int ((cntD C m s : Nat) - 1)) H'
theorem sc_places_from : FnScope ["rows", "shape"] ["rows", "shape"] (defScope s_places_from) := ⟨rfl, rfl, rfl, by decide +kernel, rfl, by decide +kernel, by decide +kernel⟩
theorem ok_places (D : DefAt K mg "places_from" s_places_from) (T : Bn mg) : Callee P w K mg base "places_from" 1 ["rows", "shape"] sp_places := by
  refine D.callee sc_places_from (fun _ _ _ _ _ _ us hl => match us, hl with | [_, _], _ => rfl) (fun vs H Q E h => ?_) (fun f cdv A outer s H vs Q E hr h => ?_)
  · obtain ⟨p, ws, C, m, s, rfl, _⟩ := h
    rfl
  · obtain ⟨p, ws, C, m, s0, rfl, hp, rr, hm, hs, q⟩ := h
    have S := sc_places_from
    refine ⟨_, pss_one (ps_ret (pe_op op_sub (pe_callB call_len_seq rfl T.n_len PySem.boot_len (pa_cons (pe_comp (own := ["row"]) (caps := [(1, "shape")]) rfl ⟨rfl, rfl, rfl, rfl, ⟨⟨rfl, rfl, .inl rfl⟩, trivial⟩⟩ (pi_list (pv 0)) (fun _ _ _ _ _ _ => pg_name (i := 0) (nd_comp (by decide +kernel)) rfl (Or.inl rfl)) (fun _ _ _ _ _ _ => pts_one (pt_val (pe_ix (ix_list' K rfl) (pv 0) (pv 1) (fun _ _ => rfl)))) (fun _ _ _ _ _ _ => pv 0)) pa_nil)) (pe_int))), ?_⟩
    refine ⟨_, rfl, _, rfl, ⟨_, SqL.of hp⟩, fun D hD => ?_⟩
    have hl := rr.1
    refine comp_i (capv := [some (.int (s0 : Nat))]) (by rfl) (gives_list K p ws) (big (by omega)) hD (fun H' s' => SqL.of (s' _ _ hp)) (fun i => tr (rowAt C i) s0) (fun i => ws.getD i .non) ?_ ?_ ?_ ?_
    · intro i hi _ z
      obtain ⟨qa, e1, e2⟩ := rr.2 i (by omega)
      rw [List.getD_eq_getElem?_getD, e1] at z
      cases z
      rw [hD] at e2
      cases e2
    · intro i x hx H' R s' h
      have hi := (List.getElem?_eq_some_iff.mp hx).1
      obtain ⟨qa, e1, e2⟩ := rr.2 i (by omega)
      rw [hx] at e1
      cases e1
      exact ⟨_, rfl, _, rfl, _, _, _, _, rfl, rfl, SqL.of (s' _ _ e2), at_bool (t := ((s0 : Nat) : Int)) (by omega) (by rw [row_length]; exact hs), _, rfl, h H' (Same.refl _)⟩
    · intro i x hx _ H' R s' h
      refine ⟨_, rfl, ?_⟩
      have := h H' (Same.refl _)
      rw [List.getD_eq_getElem?_getD, hx] at this
      exact this
    · intro H' s' e
      refine ⟨_, _, rfl, .inl (SqL.of e), _, _, rfl, rfl, ?_⟩
      have := q H' s'
      unfold cntD at this
      rw [List.length_map, hl]
      exact this
/-- fill_line -/
def sp_fline (C : Addr) : Sp := fun vs H Q _ => ∃ b l G cs past, vs = [.ref b] ∧ Bk C G H b l cs past ∧ ∀ t H', Same H H' → LineR H' t (srt cs) → Q (.ref t) H'
theorem srt_gc {C : Addr} {G : Addr → Prop} {H : Hp} {b l : Addr} {cs : Combs} {past : List Combs} (B : Bk C G H b l cs past) : GC (srt cs) ∧ (srt cs).length ≤ 8 := by
  have g := B.good
  have p := srt_perm g.nd
  exact ⟨fun c hc => (g.ok c (p.mem_iff.mp hc)).2, by rw [p.length_eq]; exact g.len⟩
theorem first_true : ∀ {bs : List Bool}, true ∈ bs → ∃ j : Nat, bs[j]? = some true ∧ ∀ m : Nat, m < j → bs[m]? = some false
  | [], h => by cases h
  | true :: bs, _ => ⟨0, rfl, fun m h => by omega⟩
  | false :: bs, h => by
    obtain ⟨j, h1, h2⟩ := first_true (bs := bs) (by simpa using h)
    refine ⟨j + 1, by simpa using h1, fun m hm => ?_⟩
    cases m with
    | zero => rfl
    | succ m => simpa using h2 m (by omega)
theorem in_bools (bs : List Bool) : inV (V.bl true) (bs.map V.bl) = decide (true ∈ bs) := by
  unfold inV
  rw [List.any_map, Bool.eq_iff_iff, List.any_eq_true, decide_eq_true_eq]
  constructor
  · rintro ⟨x, hx, e⟩
    cases x with
    | true => exact hx
    | false => exact absurd e (by decide)
  · intro h
    exact ⟨true, h, rfl⟩
theorem flat_bools (bs : List Bool) : (bs.map V.bl).all flatV = true := by
  rw [List.all_map, List.all_eq_true]
  intro x _
  rfl
theorem sc_fill_line : FnScope ["book", "table", "rows", "lasting"] ["book"] (defScope s_fill_line) := ⟨rfl, rfl, rfl, by decide +kernel, rfl, by decide +kernel, by decide +kernel⟩
theorem ok_fline {C : Addr} (D : DefAt K mg "fill_line" s_fill_line) (T : Bn mg) (V_SHAPES : ∃ t, mg "SHAPES" = some (.int 128 t)) (C_step_table : Callee1 P w K mg base "step_table" 4 ["book"] (sp_table C)) (C_rows_going_on : Callee P w K mg base "rows_going_on" 3 ["table"] sp_rows) (C_walk_round : Callee P w K mg base "walk_round" 2 ["table", "lasting", "shape"] sp_walk)
    (C_filled_line : Callee P w K mg base "filled_line" 1 ["walk"] sp_filled) (C_places_from : Callee P w K mg base "places_from" 1 ["rows", "shape"] sp_places) : Callee1 P w K mg base "fill_line" 5 ["book"] (sp_fline C) := by
  refine D.callee1 sc_fill_line (fun _ _ _ _ _ _ us hl => match us, hl with | [_], _ => rfl) (fun vs H Q E h => ?_) (fun f cdv A outer s H vs Q E hr h => ?_)
  · obtain ⟨b, l, G, cs, past, rfl, _⟩ := h
    rfl
  · obtain ⟨b, l, G, cs, past, rfl, B, q⟩ := h
    have S := sc_fill_line
    have hu := hu_of hr
    obtain ⟨gc, h8⟩ := srt_gc B
    refine ⟨_, pss_cons (ps_set (i := 1) S.nd rfl (Or.inl rfl) (pe_fn1 C_step_table (hr.mono (by decide)) (by first | exact pass_try | exact pass1 | exact pass_E0) rfl (pa_cons (pv 0) pa_nil)))
    (pss_cons (ps_set (i := 2) S.nd rfl (Or.inr rfl) (pe_fn C_rows_going_on (hr.mono (by decide)) rfl (pa_cons (pv 1) pa_nil)))
    (pss_cons (ps_set (i := 3) S.nd rfl (Or.inl rfl) (pe_ix ix_list (pv 2) (pe_un un_neg (pe_int)) (fun _ _ => rfl)))
    (pss_cons (ps_if (pt_cmpR op_in_seq (pe_bl) (pv 3) (by with_unfolding_all rfl))
      (pss_one (ps_ret (pe_fn C_filled_line (hr.mono (by decide)) rfl (pa_cons (pe_fn C_walk_round (hr.mono (by decide)) rfl (pa_cons (pv 1) (pa_cons (pv 3) (pa_cons (pe_bm PySem.F.plainAttrs_list PySem.F.slot_list_index PySem.F.type_list_index mt_indexB (pv 3) (pa_cons (pe_bl) pa_nil)) pa_nil)))) pa_nil))))
      (pss_nil))
    (pss_one (ps_ret (pe_tup (pa_cons (pe_str) (pa_cons (pe_comp (own := ["shape"]) (caps := [(2, "rows")]) rfl ⟨rfl, rfl, rfl, rfl, ⟨⟨rfl, rfl, .inl rfl⟩, trivial⟩⟩ (pi_range1 rfl T.n_range (pa_cons (pe_gint rfl V_SHAPES) pa_nil)) (fun _ _ _ _ _ _ => pg_name (i := 0) (nd_comp (by decide +kernel)) rfl (Or.inl rfl)) (fun _ _ _ _ _ _ => pts_nil) (fun _ _ _ _ _ _ => pe_fn C_places_from (hr.mono (by decide)) rfl (pa_cons (pv 1) (pa_cons (pv 0) pa_nil)))) pa_nil)))))))), ?_⟩
    refine ⟨_, rfl, b, l, G, cs, past, rfl, B, fun a H1 ts s1 na ha tb => ?_⟩
    refine ⟨_, rfl, a, ts, srt cs, rfl, ha, tb, gc, h8, fun p H2 ws m s2 np hp rr hfix hm => ?_⟩
    obtain ⟨ql, el1, el2⟩ := rr.2 m (Nat.le_refl _)
    refine ⟨_, rfl, _, rfl, _, _, _, _, rfl, rfl, SqL.of hp, at_end rr.1 el1, ?_⟩
    refine ⟨_, rfl, _, _, rfl, .inl (SqL.of el2), rfl, flat_bools _, _, rfl, ?_⟩
    rw [if_neg (by decide), in_bools]
    refine ite2 (fun ht => ?_) (fun ht => ?_)
    · have ht : true ∈ rowAt (srt cs) m := by simpa using ht
      obtain ⟨j, hj, hno⟩ := first_true ht
      have hjl : j < 128 := by rw [← row_length (srt cs) m]; exact (List.getElem?_eq_some_iff.mp hj).1
      have htr : tr (rowAt (srt cs) m) j = true := by unfold tr; rw [List.getD_eq_getElem?_getD, hj]; rfl
      refine ⟨_, rfl, _, rfl, _, rfl, .inl ⟨rfl, _, SqL.of el2⟩, ql, rowAt (srt cs) m, j, rfl, rfl, el2, by rw [row_length]; decide, hj, hno, ?_⟩
      refine ⟨a, ql, ts, srt cs, rowAt (srt cs) m, j, rfl, s2 _ _ ha, tb.same s2, gc, h8, el2, row_length _ _, hfix, hjl, htr, fun t ls pl st n wl H3 s3 hst hn hw nd ht3 hls hpl lr => ?_⟩
      refine ⟨t, ls, pl, st, n, _, _, wl, rfl, ht3, hls, hpl, lr, hst, hn, fun p4 ps pq ws' H4 s4 hp4 hps hpq lr4 => ?_⟩
      refine q p4 H4 (((s1.trans s2).trans s3).trans s4) (.inl ⟨n - st, _, _, ps, pq, ws', ⟨m, j, st, n, hfix, hjl, htr, fun i hi => ?_, hst, hn, hw, nd, rfl, rfl, rfl⟩, hp4, hps, hpq, lr4⟩)
      unfold tr
      rw [List.getD_eq_getElem?_getD, hno i hi]
      rfl
    · have ht : ¬ true ∈ rowAt (srt cs) m := by simpa using ht
      refine ⟨_, rfl, by decide, by decide, fun D hD => ?_⟩
      refine comp_i (capv := [some (.ref p)]) (by rfl) (gives_range 0 (128 : Int).toNat) (by rw [range_len]; exact big (by decide)) hD (fun _ _ => trivial) (fun _ => true) (fun i => .int ((cntD (srt cs) m i : Nat) - 1)) (fun _ _ _ => nofun) (fun i x hx H R s' h => h H (Same.refl _)) ?_ ?_
      · intro i x hx _ H' R s' h
        obtain ⟨hi, rfl⟩ := range_int hx
        rw [Int.zero_add]
        exact ⟨_, rfl, _, rfl, p, ws, srt cs, m, i, rfl, s' _ _ hp, rr.same s', hm, hi, fun H3 s3 => h H3 s3⟩
      · intro H' s' e
        refine ⟨bigr rfl, fun t nt => ?_⟩
        have s4 : Same H' (upd H' t (.tup [.str (Str.ofString "stuck"), .ref D])) := Same.new nt
        refine q t _ (((s1.trans s2).trans s').trans s4) (.inr ⟨m, D, ⟨hfix, fun s hs => ?_⟩, hm, upd_same, ?_⟩)
        · cases et : tr (rowAt (srt cs) m) s with
          | false => rfl
          | true =>
            exfalso
            apply ht
            unfold tr at et
            rw [List.getD_eq_getElem?_getD] at et
            cases ez : (rowAt (srt cs) m)[s]? with
            | none => rw [ez] at et; cases et
            | some z =>
              rw [ez] at et
              have : z = true := et
              exact this ▸ List.mem_of_getElem? ez
        · rw [s4 _ _ e, List.filter_eq_self.mpr (fun _ _ => rfl), range_len]
          rfl
--CUT--
def sp_reach : Sp := fun vs H Q _ => ∃ (x : Int), vs = [.int x] ∧ ∀ p H', Same H H' → H p = none → H' p = some (.lst (((List.range 8).map fun (t : Nat) => x - (t : Int)).map V.int)) → Q (.ref p) H'
theorem sc_reaching_places : FnScope ["place"] ["place"] (defScope s_reaching_places) := ⟨rfl, rfl, rfl, by decide +kernel, rfl, by decide +kernel, by decide +kernel⟩
theorem ok_reach (D : DefAt K mg "reaching_places" s_reaching_places) (T : Bn mg) (V_MOST_TOOTH : ∃ t, mg "MOST_TOOTH" = some (.int 7 t)) : Callee P w K mg base "reaching_places" 1 ["place"] sp_reach := by
  refine D.callee sc_reaching_places (fun _ _ _ _ _ _ us hl => match us, hl with | [_], _ => rfl) (fun vs H Q E h => ?_) (fun f cdv A outer s H vs Q E hr h => ?_)
  · obtain ⟨x, rfl, _⟩ := h
    rfl
  · obtain ⟨x, rfl, q⟩ := h
    have S := sc_reaching_places
    refine ⟨_, pss_one (ps_ret (pe_comp (own := ["tooth"]) (caps := [(0, "place")]) rfl ⟨rfl, rfl, rfl, rfl, ⟨⟨rfl, rfl, .inl rfl⟩, trivial⟩⟩ (pi_range1 rfl T.n_range (pa_cons (pe_op op_add (pe_gint rfl V_MOST_TOOTH) (pe_int)) pa_nil)) (fun _ _ _ _ _ _ => pg_name (i := 0) (nd_comp (by decide +kernel)) rfl (Or.inl rfl)) (fun _ _ _ _ _ _ => pts_nil) (fun _ _ _ _ _ _ => pe_op op_sub (pv 1) (pv 0)))), ?_⟩
    refine ⟨_, _, rfl, rfl, _, rfl, by decide, by decide, fun D hD => ?_⟩
    refine comp_i (capv := [some (.int x)]) (by rfl) (gives_range 0 (7 + 1 : Int).toNat) (by rw [range_len]; exact big (by decide)) hD (fun _ _ => trivial) (fun _ => true) (fun i => V.int (x - (i : Nat))) (fun _ _ _ => nofun) (fun i y hy H' R s' h => h H' (Same.refl _)) ?_ ?_
    · intro i y hy _ H' R s' h
      obtain ⟨hi, rfl⟩ := range_int hy
      rw [Int.zero_add]
      exact ⟨_, rfl, _, rfl, _, _, rfl, rfl, h H' (Same.refl _)⟩
    · intro H' s' e
      refine q D H' s' hD ?_
      rw [e, range_len, List.filter_eq_self.mpr (fun _ _ => rfl), List.map_map]
      rfl
def sp_chkf (ea : Nat → Addr) : Sp := fun vs H Q E => ∃ (t : Addr) (x : Str) (xs : List V), vs = [.ref t] ∧ H t = some (.tup (.str x :: xs)) ∧ if x = Str.ofString "stuck" then E (.ref (ea 14)) none H else Q .non H
theorem sc_check_filled : FnScope ["answer"] ["answer"] (defScope s_check_filled) := ⟨rfl, rfl, rfl, by decide +kernel, rfl, by decide +kernel, by decide +kernel⟩
theorem ok_chkf {ea : Nat → Addr} (D : DefAt K mg "check_filled" s_check_filled) (T : Bn mg) (O_NoFilling : Err K mg "NoFilling" (ea 14)) : Callee1 P w K mg base "check_filled" 1 ["answer"] (sp_chkf ea) := by
  refine D.callee1 sc_check_filled (fun _ _ _ _ _ _ us hl => match us, hl with | [_], _ => rfl) (fun vs H Q E h => ?_) (fun f cdv A outer s H vs Q E hr h => ?_)
  · obtain ⟨t, x, xs, rfl, _⟩ := h
    rfl
  · obtain ⟨t, x, xs, rfl, ht, q⟩ := h
    have S := sc_check_filled
    refine ⟨_, pss_one (ps_if (pt_cmpR op_eq (pe_ix ix_tup (pv 0) (pe_int) (fun _ _ => rfl)) (pe_str) (nomark _))
      (pss_one (ps_raise O_NoFilling rfl (pa_cons (pe_str) pa_nil)))
      (pss_nil)), ?_⟩
    refine ⟨_, rfl, _, _, _, _, rfl, rfl, SqT.of ht, atI_nat (j := 0) rfl, rfl, _, rfl, ?_⟩
    by_cases e : x = Str.ofString "stuck"
    · rw [if_pos e] at q
      rw [decide_eq_true (by rw [e])]
      exact iteT ⟨bigr rfl, q⟩
    · rw [if_neg e] at q
      rw [decide_eq_false (fun z => e (by injection z))]
      exact iteF q
/-- which laying lies over a place: t0 is the first tooth that is there -/
def sp_over (C : Addr) : Sp := fun vs H Q _ => ∃ (b l0 l h : Addr) (G : Addr → Prop) (cs : Combs) (past : List Combs) (x : Int) (n : Nat) (nm : Nat → Str) (wl : List V) (hs : Nat → Int) (t0 : Nat), vs = [.ref b, .int x, .ref l, .ref h] ∧ Bk C G H b l0 cs past ∧ H l = some (.lst wl) ∧ LaysR H wl nm n ∧ n ≤ 1000 ∧ H h = some (.lst (((List.range 8).map hs).map V.int)) ∧
  (∀ j, nm j ≠ Str.ofString "" → (cGet cs (nm j)).isSome = true) ∧ t0 < 8 ∧ (0 ≤ hs t0 ∧ (hs t0).toNat < n ∧ nm (hs t0).toNat ≠ Str.ofString "" ∧ (t0 : Int) ∈ tkOf cs (nm (hs t0).toNat)) ∧ (∀ t, t < t0 → 0 ≤ hs t → (hs t).toNat < n → nm (hs t).toNat ≠ Str.ofString "" → (t : Int) ∉ tkOf cs (nm (hs t).toNat)) ∧
  ∀ p H', Same H H' → H' p = some (.tup [.int (x - t0), .str (nm (hs t0).toNat)]) → Q (.ref p) H'
theorem head_filter {P : Nat → Bool} {n t0 : Nat} (h : t0 < n) (hp : P t0 = true) (hb : ∀ t, t < t0 → P t = false) : ((List.range n).filter P)[0]? = some t0 := by
  have e : List.range n = List.range t0 ++ t0 :: (List.range (n - t0 - 1)).map fun k => t0 + 1 + k := by
    have h1 : List.range n = List.range ((t0 + 1) + (n - t0 - 1)) := by congr 1; omega
    rw [h1, List.range_add, List.range_succ, List.append_assoc]
    rfl
  rw [e, List.filter_append, List.filter_eq_nil_iff.mpr (fun t ht => by rw [hb t (List.mem_range.mp ht)]; exact Bool.false_ne_true), List.filter_cons, if_pos hp]
  rfl
theorem sc_laying_over : FnScope ["book", "place", "layings", "homes", "names", "laid"] ["book", "place", "layings", "homes"] (defScope s_laying_over) := ⟨rfl, rfl, rfl, by decide +kernel, rfl, by decide +kernel, by decide +kernel⟩
theorem ok_over {ea : Nat → Addr} {C : Addr} (D : DefAt K mg "laying_over" s_laying_over) (T : Bn mg) (BA : BookAt K C) (M_teeth : Method P w K mg base C "teeth" (CX1 P w) 2 ["self", "name"] (sp_bteeth ea C)) : Callee1 P w K mg base "laying_over" 3 ["book", "place", "layings", "homes"] (sp_over C) := by
  refine D.callee1 sc_laying_over (fun _ _ _ _ _ _ us hl => match us, hl with | [_, _, _, _], _ => rfl) (fun vs H Q E h => ?_) (fun f cdv A outer s H vs Q E hr h => ?_)
  · obtain ⟨b, l0, l, h, G, cs, past, x, n, nm, wl, hs, t0, rfl, _⟩ := h
    rfl
  · obtain ⟨b, l0, l, h, G, cs, past, x, n, nm, wl, hs, t0, rfl, B, hl, lr, hn, hh, hnm, ht8, ⟨z1, z2, z3, z4⟩, hbef, q⟩ := h
    have S := sc_laying_over
    have hu := hu_of hr
    have B_cls := BA.cls
    refine ⟨_, pss_cons (ps_set (i := 4) S.nd rfl (Or.inr rfl) (pe_callTy (call_dictP rfl) rfl T.n_dict boot_dict (pa_cons (pv 2) pa_nil)))
    (pss_cons (ps_setC (i := 5) S.nd rfl (Or.inl rfl) (own := ["tooth", "home"]) (caps := [(4, "names")]) rfl ⟨rfl, rfl, rfl, rfl, ⟨⟨rfl, rfl, .inl rfl⟩, trivial⟩⟩ (pi_enum rfl T.n_enumerate (pa_cons (pv 3) pa_nil)) (fun _ _ _ _ _ _ => pg_tup' K rfl (n := 2) rfl (pgs_cons (pg_name (i := 0) (nd_comp (by decide +kernel)) rfl (Or.inl rfl)) (pgs_cons (pg_name (i := 1) (nd_comp (by decide +kernel)) rfl (Or.inl rfl)) (pgs_nil)))) (fun _ _ _ _ _ _ => pts_one (pt_cmp (pc_din hu (pv 1) (pv 2)))) (fun _ _ _ _ _ _ => pe_tup (pa_cons (pv 0) (pa_cons (pe_dget hu (pv 2) (pv 1) (fun _ _ => rfl)) pa_nil))))
    (pss_one (ps_ret (pe_ix ix_list (pe_comp (own := ["tooth", "name"]) (caps := [(0, "book"), (1, "place")]) rfl ⟨rfl, rfl, rfl, rfl, ⟨⟨rfl, rfl, .inl rfl⟩, ⟨rfl, rfl, .inl rfl⟩, trivial⟩⟩ (pi_list (pv 5)) (fun _ _ _ _ _ _ => pg_tup' K rfl (n := 2) rfl (pgs_cons (pg_name (i := 0) (nd_comp (by decide +kernel)) rfl (Or.inl rfl)) (pgs_cons (pg_name (i := 1) (nd_comp (by decide +kernel)) rfl (Or.inl rfl)) (pgs_nil)))) (fun _ _ _ _ _ _ => pts_one (pt_cmpR (op_in_seq' K rfl) (pv 0) (pe_mt (pv 2) B_cls M_teeth (hr.mono (by decide)) (by first | exact pass0 | exact pass_try | exact pass1 | exact pass_E0) (pa_cons (pv 1) pa_nil)) (by with_unfolding_all rfl))) (fun _ _ _ _ _ _ => pe_tup (pa_cons (pe_op op_sub (pv 3) (pv 0)) (pa_cons (pv 1) pa_nil)))) (pe_int) (fun _ _ => rfl))))), ?_⟩
    refine ⟨_, rfl, l, wl, layK nm n, rfl, hl, layK_pairs lr, fun d nd => ?_⟩
    rw [layK_all]
    have s1 : Same H (upd H d (.dK (layK nm n))) := Same.new nd
    have hd : upd H d (.dK (layK nm n)) d = some (.dK (layK nm n)) := upd_same
    generalize upd H d (.dK (layK nm n)) = H1 at s1 hd ⊢
    refine ⟨_, rfl, h, rfl, ⟨_, SqL.of (s1 _ _ hh)⟩, fun D1 hD1 => ?_⟩
    have hget : ∀ i (hi : i < 8), (((List.range 8).map hs).map V.int)[i]? = some (.int (hs i)) := fun i hi => by
      rw [List.getElem?_map, List.getElem?_map, List.getElem?_range hi]
      rfl
    have hlen8 : (((List.range 8).map hs).map V.int).length = 8 := by rw [List.length_map, List.length_map, List.length_range]
    have hsome : ∀ i, (valV (layK nm n) (Sum.inl (hs i))).isSome = decide (0 ≤ hs i ∧ (hs i).toNat < n ∧ nm (hs i).toNat ≠ Str.ofString "") := fun i => by
      rw [layK_val]
      by_cases e : 0 ≤ hs i ∧ (hs i).toNat < n ∧ nm (hs i).toNat ≠ Str.ofString ""
      · rw [if_pos e, decide_eq_true e]; rfl
      · rw [if_neg e, decide_eq_false e]; rfl
    refine comp_e2 (K := K) (capv := [some (.ref d)]) (by rfl) (s1 _ _ hh) (by rw [hlen8]; decide) hD1 (fun i => decide (0 ≤ hs i ∧ (hs i).toNat < n ∧ nm (hs i).toNat ≠ Str.ofString "")) (fun H' i v => ∃ q', v = .ref q' ∧ H' q' = some (.tup [.int (i : Nat), .str (nm (hs i).toNat)])) ?_ ?_ ?_ ?_ ?_
    · rintro H' H'' i v s' ⟨q', e1, e2⟩
      exact ⟨q', e1, s' _ _ e2⟩
    · rintro H' i v l1 l2 hv hH ⟨q', rfl, e2⟩
      exact ⟨q', rfl, by rw [upd_ne (fun z => hv (by rw [z]))]; exact e2⟩
    · intro i y hy H' R s' h'
      have hi : i < 8 := by rw [← hlen8]; exact (List.getElem?_eq_some_iff.mp hy).1
      rw [hget i hi] at hy
      cases hy
      refine ⟨_, rfl, _, rfl, d, _, rfl, DGet.k (k := Sum.inl (hs i)) (s' _ _ hd), _, rfl, ?_⟩
      rw [hsome]
      exact h' H' (Same.refl _)
    · intro i y hy hp H' R s' hDn h'
      have hi : i < 8 := by rw [← hlen8]; exact (List.getElem?_eq_some_iff.mp hy).1
      rw [hget i hi] at hy
      cases hy
      have hp := of_decide_eq_true hp
      have dg : DGet H' d (.int (hs i)) (some (.str (nm (hs i).toNat))) := by
        have := DGet.k (k := Sum.inl (hs i)) (s' _ _ hd)
        rw [layK_val, if_pos hp] at this
        exact this
      refine ⟨_, rfl, _, rfl, _, rfl, _, _, rfl, dg, bigr rfl, fun t nt => ?_⟩
      refine h' _ _ (Same.new nt) (fun z => hDn (by injection z with z; rw [← z]; exact nt)) ⟨t, rfl, upd_same⟩
    intro H2 ys s2 e2 pr
    rw [hlen8] at pr
    have hyl := Paired.length pr
    have hF8 : ((List.range 8).filter fun i => decide (0 ≤ hs i ∧ (hs i).toNat < n ∧ nm (hs i).toNat ≠ Str.ofString "")).length ≤ 8 := Nat.le_trans (List.length_filter_le _ _) (by rw [List.length_range]; exact Nat.le_refl _)
    generalize hFd : ((List.range 8).filter fun i => decide (0 ≤ hs i ∧ (hs i).toNat < n ∧ nm (hs i).toNat ≠ Str.ofString "")) = F at pr hyl hF8
    have hFm : ∀ t, t ∈ F ↔ t < 8 ∧ 0 ≤ hs t ∧ (hs t).toNat < n ∧ nm (hs t).toNat ≠ Str.ofString "" := fun t => by
      rw [← hFd, List.mem_filter, List.mem_range, decide_eq_true_eq]
    refine ⟨_, rfl, _, rfl, ⟨_, SqL.of e2⟩, fun D2 hD2 => ?_⟩
    have s12 := s1.trans s2
    refine comp_x2 (K := K) (capv := [some (.ref b), some (.int x)]) (by rfl) (gives_list K D1 ys) (big (by omega)) hD2 (fun H' s' => SqL.of (s' _ _ e2)) (fun k => V.int ((F.getD k 0 : Nat) : Int)) (fun k => V.str (nm (hs (F.getD k 0)).toNat)) ?_ (fun k => decide (((F.getD k 0 : Nat) : Int) ∈ tkOf cs (nm (hs (F.getD k 0)).toNat))) (fun H' k v => ∃ q', v = .ref q' ∧ H' q' = some (.tup [.int (x - ((F.getD k 0 : Nat) : Int)), .str (nm (hs (F.getD k 0)).toNat)])) ?_ ?_ ?_ ?_ ?_
    · intro k v hv
      obtain ⟨t, et, _, q', rfl, eq'⟩ := Paired.rev pr hv
      refine ⟨q', rfl, ?_⟩
      rw [List.getD_eq_getElem?_getD, et]
      exact eq'
    · rintro H' H'' i v s' ⟨q', e1, e2⟩
      exact ⟨q', e1, s' _ _ e2⟩
    · rintro H' i v l1 l2 hv hH ⟨q', rfl, e2⟩
      exact ⟨q', rfl, by rw [upd_ne (fun z => hv (by rw [z]))]; exact e2⟩
    · intro k hk H' R s' h'
      have hkF : k < F.length := by rw [hyl]; exact hk
      have hmem : F.getD k 0 ∈ F := by rw [List.getD_eq_getElem?_getD, List.getElem?_eq_getElem hkF]; exact List.getElem_mem hkF
      obtain ⟨m8, m1, m2, m3⟩ := (hFm _).mp hmem
      obtain ⟨ts, hts⟩ := Option.isSome_iff_exists.mp (hnm _ m3)
      have etk : tkOf cs (nm (hs (F.getD k 0)).toNat) = ts := by unfold tkOf; rw [hts]; rfl
      have B' := B.same (s12.trans s')
      obtain ⟨dx2, d2, hb2, _⟩ := id B'.ins
      refine ⟨_, rfl, _, rfl, b, dx2, _, rfl, hb2, rfl, _, rfl, b, l0, G, cs, past, _, rfl, B', ?_⟩
      rw [hts]
      intro p3 np3
      have s3 : Same H' (upd H' p3 (.lst (ts.map V.int))) := Same.new np3
      refine ⟨_, _, rfl, .inl (SqL.of upd_same), rfl, flats ts, _, rfl, ?_⟩
      rw [if_neg (by decide), in_intS]
      rw [etk] at h'
      exact h' _ s3
    · intro k hk hp H' R s' hDn h'
      refine ⟨_, rfl, _, rfl, _, _, rfl, rfl, _, rfl, bigr rfl, fun t nt => ?_⟩
      exact h' _ _ (Same.new nt) (fun z => hDn (by injection z with z; rw [← z]; exact nt)) ⟨t, rfl, upd_same⟩
    · intro H3 zs s3 e3 pz
      rw [← hyl] at pz
      have eF := filter_idx F (fun t => decide ((t : Int) ∈ tkOf cs (nm (hs t).toNat))) 0
      have hhd : (F.filter fun t => decide ((t : Int) ∈ tkOf cs (nm (hs t).toNat)))[0]? = some t0 := by
        rw [← hFd, List.filter_filter]
        refine head_filter ht8 ?_ fun t ht => ?_
        · rw [Bool.and_eq_true, decide_eq_true_eq, decide_eq_true_eq]
          exact ⟨z4, z1, z2, z3⟩
        · rw [Bool.and_eq_false_iff]
          by_cases c : 0 ≤ hs t ∧ (hs t).toNat < n ∧ nm (hs t).toNat ≠ Str.ofString ""
          · exact .inl (decide_eq_false (hbef t ht c.1 c.2.1 c.2.2))
          · exact .inr (decide_eq_false c)
      rw [← eF, List.getElem?_map] at hhd
      cases hk0 : ((List.range F.length).filter fun i => decide (((F.getD i 0 : Nat) : Int) ∈ tkOf cs (nm (hs (F.getD i 0)).toNat)))[0]? with
      | none => rw [hk0] at hhd; cases hhd
      | some k0 =>
        rw [hk0] at hhd
        have hhd : F.getD k0 0 = t0 := Option.some.inj hhd
        obtain ⟨y, ey, _, q', rfl, eq'⟩ := Paired.at pz hk0
        rw [hhd] at eq'
        exact ⟨_, _, _, _, rfl, rfl, SqL.of e3, atI_nat (j := 0) ey, q q' H3 (s12.trans s3) eq'⟩
--CUT--
/-- what comb_over_line tells of a line that is filled -/
def overL (C : Combs) (sp : Nat) (nm : Nat → Str) (x : Int) (t0 : Nat) : Prop := t0 < 8 ∧ (t0 : Int) ∈ tkOf C (nm ((x - (t0 : Int)) % (sp : Int)).toNat)
def sp_cline (ea : Nat → Addr) (C : Addr) : Sp := fun vs H Q E => ∃ b l G cs past x, vs = [.ref b, .int x] ∧ Bk C G H b l cs past ∧
  (if -1000000000000000000 ≤ x ∧ x ≤ 1000000000000000000 then (∀ m H', Same H H' → StuckD (srt cs) m → E (.ref (ea 14)) none H') ∧ ∀ p sp f nm t0 H', Same H H' → LineD (srt cs) sp f nm → overL (srt cs) sp nm x t0 → H' p = some (.tup [.int (x - (t0 : Nat)), .str (nm ((x - (t0 : Int)) % (sp : Int)).toNat)]) → Q (.ref p) H' else E (.ref (ea 12)) none H)
theorem bk_ne {C : Addr} {G : Addr → Prop} {H : Hp} {b l : Addr} {cs : Combs} {past : List Combs} (B : Bk C G H b l cs past) : ((srt cs).map (·.1)).Nodup ∧ (∀ c ∈ srt cs, c.1 ≠ Str.ofString "") := by
  have pm := srt_perm B.good.nd
  exact ⟨(pm.map _).nodup_iff.mpr B.good.nd, fun c hc z => by
    have h := (B.good.ok c (pm.mem_iff.mp hc)).1
    rw [z] at h
    revert h
    decide⟩
theorem at4F {x y z u : V} : atI [x, y, z, u] 1 = some y ∧ atI [x, y, z, u] 3 = some u := ⟨show atI _ ((1 : Nat) : Int) = _ from atI_nat rfl, show atI _ ((3 : Nat) : Int) = _ from atI_nat rfl⟩
theorem sc_comb_over_line : FnScope ["book", "place", "answer", "homes"] ["book", "place"] (defScope s_comb_over_line) := ⟨rfl, rfl, rfl, by decide +kernel, rfl, by decide +kernel, by decide +kernel⟩
theorem ok_cline {ea : Nat → Addr} {C : Addr} (D : DefAt K mg "comb_over_line" s_comb_over_line) (T : Bn mg) (V_MOST_PLACE : ∃ t, mg "MOST_PLACE" = some (.int 1000000000000000000 t)) (O_BadPlace : Err K mg "BadPlace" (ea 12)) (C_fill_line : Callee1 P w K mg base "fill_line" 5 ["book"] (sp_fline C)) (C_check_filled : Callee1 P w K mg base "check_filled" 1 ["answer"] (sp_chkf ea)) (C_reaching_places : Callee P w K mg base "reaching_places" 1 ["place"] sp_reach)
    (C_laying_over : Callee1 P w K mg base "laying_over" 3 ["book", "place", "layings", "homes"] (sp_over C)) : Callee1 P w K mg base "comb_over_line" 6 ["book", "place"] (sp_cline ea C) := by
  refine D.callee1 sc_comb_over_line (fun _ _ _ _ _ _ us hl => match us, hl with | [_, _], _ => rfl) (fun vs H Q E h => ?_) (fun f cdv A outer s H vs Q E hr h => ?_)
  · obtain ⟨b, l, G, cs, past, x, rfl, _⟩ := h
    rfl
  · obtain ⟨b, l, G, cs, past, x, rfl, B, q⟩ := h
    have S := sc_comb_over_line
    obtain ⟨gc, h8⟩ := srt_gc B
    obtain ⟨nds, nes⟩ := bk_ne B
    refine ⟨_, pss_cons (ps_if (pt_not (pt_chain op_le op_le (pe_un un_neg (pe_gint rfl V_MOST_PLACE)) (pv 1) (pe_gint rfl V_MOST_PLACE)))
      (pss_one (ps_raise O_BadPlace rfl (pa_cons (pe_str) pa_nil)))
      (pss_nil))
    (pss_cons (ps_set (i := 2) S.nd rfl (Or.inr rfl) (pe_fn1 C_fill_line (hr.mono (by decide)) (by first | exact pass_try | exact pass1 | exact pass_E0) rfl (pa_cons (pv 0) pa_nil)))
    (pss_cons (ps_expr (pe_fn1 C_check_filled (hr.mono (by decide)) (by first | exact pass_try | exact pass1 | exact pass_E0) rfl (pa_cons (pv 2) pa_nil)))
    (pss_cons (ps_setC (i := 3) S.nd rfl (Or.inl rfl) (own := ["spot"]) (caps := [(2, "answer")]) rfl ⟨rfl, rfl, rfl, rfl, ⟨⟨rfl, rfl, .inl rfl⟩, trivial⟩⟩ (pi_list (pe_fn C_reaching_places (hr.mono (by decide)) rfl (pa_cons (pv 1) pa_nil))) (fun _ _ _ _ _ _ => pg_name (i := 0) (nd_comp (by decide +kernel)) rfl (Or.inl rfl)) (fun _ _ _ _ _ _ => pts_nil) (fun _ _ _ _ _ _ => pe_op op_mod (pv 0) (pe_ix (ix_tup' K rfl) (pv 1) (pe_int) (fun _ _ => rfl))))
    (pss_one (ps_ret (pe_fn1 C_laying_over (hr.mono (by decide)) (by first | exact pass_try | exact pass1 | exact pass_E0) rfl (pa_cons (pv 0) (pa_cons (pv 1) (pa_cons (pe_ix ix_tup (pv 2) (pe_int) (fun _ _ => rfl)) (pa_cons (pv 3) pa_nil)))))))))), ?_⟩
    refine ⟨_, rfl, _, rfl, _, _, rfl, rfl, _, rfl, ?_⟩
    by_cases h0 : -1000000000000000000 ≤ x
    case neg =>
      rw [if_neg (fun z => h0 z.1)] at q
      rw [decide_eq_false h0]
      exact iteF ⟨_, rfl, iteT ⟨bigr rfl, q⟩⟩
    rw [decide_eq_true h0]
    refine iteT ?_
    refine ⟨_, _, rfl, rfl, _, rfl, ?_⟩
    by_cases h1 : x ≤ 1000000000000000000
    case neg =>
      rw [if_neg (fun z => h1 z.2)] at q
      rw [decide_eq_false h1]
      exact iteT ⟨bigr rfl, q⟩
    rw [if_pos ⟨h0, h1⟩] at q
    obtain ⟨q1, q2⟩ := q
    rw [decide_eq_true h1]
    refine iteF ?_
    refine ⟨_, rfl, b, l, G, cs, past, rfl, B, fun t H1 s1 lr => ?_⟩
    rcases lr with ⟨sp, fs, nm, ps, pl, wl, ld, ht, hps, hpl, la⟩ | ⟨m, pc, sd, hm, ht, hpc⟩
    rotate_left
    · refine ⟨_, rfl, t, _, _, rfl, ht, ?_⟩
      rw [if_pos rfl]
      exact q1 m H1 s1 sd
    refine ⟨_, rfl, t, _, _, rfl, ht, ?_⟩
    rw [if_neg (by decide)]
    obtain ⟨hs1, hs128, _⟩ := ld.span
    refine ⟨_, rfl, x, rfl, fun p1 H2 s2 np1 hp1 => ⟨_, rfl, ⟨_, SqL.of hp1⟩, fun D1 hD1 => ?_⟩⟩
    have psp : (0 : Int) < ((sp : Nat) : Int) := by omega
    refine comp_i (capv := [some (.ref t)]) (by rfl) (gives_list K p1 _) (by rw [List.length_map, List.length_map, List.length_range]; exact big (by decide)) hD1 (fun H' s' => SqL.of (s' _ _ hp1)) (fun _ => true) (fun i => V.int ((x - ((i : Nat) : Int)) % ((sp : Nat) : Int))) (fun _ _ _ => nofun) (fun i y hy H' R s' h => h H' (Same.refl _)) ?_ ?_
    · intro i y hy _ H' R s' h
      have hi : i < 8 := by have := (List.getElem?_eq_some_iff.mp hy).1; simpa using this
      rw [List.getElem?_map, List.getElem?_map, List.getElem?_range hi] at hy
      cases hy
      exact ⟨_, rfl, _, rfl, _, _, _, _, rfl, rfl, SqT.of (s' _ _ (s2 _ _ ht)), at4F.1, _, _, rfl, rfl, psp, h H' (Same.refl _)⟩
    intro H3 s3 e3
    have s23 := s2.trans s3
    have s13 := s1.trans s23
    refine ⟨_, rfl, _, rfl, _, rfl, _, _, _, _, rfl, rfl, SqT.of (s23 _ _ ht), at4F.2, _, rfl, ?_⟩
    obtain ⟨t0, o1, o2, o3⟩ := ld.over gc nds nes x
    have hcs : ∀ y, tkOf (srt cs) y = tkOf cs y := fun y => by
      unfold tkOf
      rw [tk_perm (srt_perm B.good.nd) nds]
    have mm := fun (t : Nat) => And.intro (Int.emod_nonneg (x - (t : Int)) (show ((sp : Nat) : Int) ≠ 0 by omega)) (Int.emod_lt_of_pos (x - (t : Int)) psp)
    refine ⟨b, l, pl, D1, G, cs, past, x, sp, nm, wl, (fun t => (x - (t : Int)) % ((sp : Nat) : Int)), t0, rfl, B.same s13, s23 _ _ hpl, la.mono fun _ _ e => s23 _ _ e, by omega, ?_, fun j hne => ?_, o1, ?_, fun u hu _ _ _ hmu => ?_, fun p H4 s4 hp4 => ?_⟩
    · rw [e3, List.filter_eq_self.mpr (fun _ _ => rfl), List.length_map, List.length_map, List.length_range, List.map_map]
      rfl
    · rcases ld.go gc j with ⟨_, e1, _⟩ | ⟨_, c, hc, e1, _⟩
      · exact absurd e1 hne
      · rw [e1, mem_get B.good.nd ((srt_perm B.good.nd).mem_iff.mp hc)]; rfl
    · have := mm t0
      exact ⟨this.1, show ((x - (t0 : Int)) % ((sp : Nat) : Int)).toNat < sp by omega, tk_ne nes o2, by rw [← hcs]; exact o2⟩
    · rw [← hcs] at hmu
      have := o3 u (by omega) hmu
      omega
    · exact q2 p sp fs nm t0 H4 (s13.trans s4) ld ⟨o1, o2⟩ hp4
--CUT--
def posV (v : V) : Bool := match v with
  | .int t => decide (0 < t)
  | _ => false
def decV (v : V) : V := match v with
  | .int t => .int (t - 1)
  | _ => .non
def sp_after (K : PySem.W.Frag) : Sp := fun vs H Q _ => ∃ (a t : Addr) (ah ts : List Int), vs = [.ref a, .ref t] ∧ SqT K H a (ah.map V.int) ∧ H t = some (.lst (ts.map V.int)) ∧ ah.Nodup ∧ (∀ d ∈ ah, 0 ≤ d ∧ d ≤ 6) ∧ ts.Nodup ∧ (∀ d ∈ ts, 0 ≤ d ∧ d ≤ 7) ∧
  (if meets ah ts = true then Q .non H else ∀ p H', Same H H' → H p = none → H' p = some (.tup ((afterOf ah ts).map V.int)) → Q (.ref p) H')
theorem sc_after : FnScope ["_law_ahead_here", "_law_teeth_here", "_law_t"] ["_law_ahead_here", "_law_teeth_here"] (defScope s_after) := ⟨rfl, rfl, rfl, by decide +kernel, rfl, by decide +kernel, by decide +kernel⟩
theorem ok_after (D : DefAt K mg "_law_after" s_after) (T : Bn mg) : Callee P w K mg base "_law_after" 1 ["_law_ahead_here", "_law_teeth_here"] (sp_after K) := by
  refine D.callee sc_after (fun _ _ _ _ _ _ us hl => match us, hl with | [_, _], _ => rfl) (fun vs H Q E h => ?_) (fun f cdv A outer s H vs Q E hr h => ?_)
  · obtain ⟨a, t, ah, ts, rfl, _⟩ := h
    rfl
  · obtain ⟨a, t, ah, ts, rfl, ha, ht, an, ar, tn, tr, q⟩ := h
    have S := sc_after
    have hal : ah.length ≤ 8 := teeth_len an fun d hd => by have := ar d hd; omega
    have htl : ts.length ≤ 8 := teeth_len tn tr
    refine ⟨_, pss_cons (ps_for PassesOwn.never rfl (pi_list (pv 1)) (pg_name (i := 2) S.nd rfl (Or.inl rfl))
      (pss_one (ps_if (pt_cmpR op_in_seq (pv 2) (pv 0) (by with_unfolding_all rfl))
        (pss_one (ps_ret (pe_non)))
        (pss_nil))))
    (pss_one (ps_ret (pe_callTy call_tuple_of rfl T.n_tuple boot_tuple (pa_cons (pe_comp (own := ["_law_d"]) (caps := []) rfl ⟨rfl, rfl, rfl, rfl, trivial⟩ (pi_list (pe_callB call_sortedI rfl T.n_sorted boot_sorted (pa_cons (pe_op op_cat (pe_callTy call_list_of rfl T.n_list boot_list (pa_cons (pv 0) pa_nil)) (pv 1)) pa_nil))) (fun _ _ _ _ _ _ => pg_name (i := 0) (nd_comp (by decide +kernel)) rfl (Or.inl rfl)) (fun _ _ _ _ _ _ => pts_one (pt_cmpR op_gt (pv 0) (pe_int) (nomark _))) (fun _ _ _ _ _ _ => pe_op op_sub (pv 0) (pe_int))) pa_nil)))), ?_⟩
    refine ⟨_, rfl, _, rfl, ⟨_, SqL.of ht⟩, ?_⟩
    refine for_g (gives_list K t (ts.map V.int)) (fun i σ Hx => Hx = H ∧ meets ah (ts.take i) = false ∧ ∃ x2, σ = [some (.ref a), some (.ref t), x2]) ⟨rfl, rfl, _, rfl⟩ (fun i σ Hx _ h => by rw [h.1]; exact SqL.of ht) ?_ ?_
    · rintro i x σ Hx hx ⟨rfl, hm, x2, rfl⟩
      rw [List.getElem?_map] at hx
      cases hk : ts[i]? with
      | none => rw [hk] at hx; cases hx
      | some y =>
        rw [hk] at hx
        cases hx
        refine ⟨_, rfl, _, rfl, _, _, rfl, .inr ha, rfl, flats ah, _, rfl, ?_⟩
        rw [if_neg (by decide), in_intS]
        refine ite2 (fun hc => ?_) (fun hc => ?_)
        · have hc : y ∈ ah := by simpa using hc
          have : meets ah ts = true := by
            unfold meets
            exact List.any_eq_true.mpr ⟨y, List.mem_of_getElem? hk, decide_eq_true hc⟩
          rw [if_pos this] at q
          exact q
        · have hc : y ∉ ah := by simpa using hc
          refine ⟨rfl, ?_, _, rfl⟩
          rw [take_snoc hk]
          rw [meets_false] at hm ⊢
          intro z hz
          rcases List.mem_append.mp hz with h | h
          · exact hm z h
          · rw [List.mem_singleton.mp h]; exact hc
    · rintro σ Hx ⟨rfl, hm, x2, rfl⟩
      rw [List.length_map, List.take_length] at hm
      rw [if_neg (by rw [hm]; decide)] at q
      refine ⟨_, rfl, a, _, rfl, .inr ha, fun p np => ⟨_, rfl, p, t, _, ts.map V.int, rfl, rfl, upd_same, ?_, ?_, fun p2 np2 => ?_⟩⟩
      · rw [upd_ne (ne_of_none ht np)]; exact ht
      · rw [List.length_map, List.length_map]
        exact Nat.le_of_lt (Nat.lt_of_lt_of_le (by omega : ah.length + ts.length < 1000) sizeBig)
      refine ⟨p2, ah ++ ts, rfl, SqL.of (by rw [List.map_append]; exact upd_same), by rw [List.length_append]; omega, fun p3 ns np3 hp hs => ?_⟩
      have hc := after_canon an ar tn tr hm hp hs
      have s1 : Same Hx (upd Hx p (.lst (ah.map V.int))) := Same.new np
      have s2 := s1.trans (Same.new (o := .lst (ah.map V.int ++ ts.map V.int)) np2)
      have s3 := s2.trans (Same.new (o := .lst (ns.map V.int)) np3)
      refine ⟨_, rfl, ⟨_, SqL.of upd_same⟩, fun Dc hD => ?_⟩
      have hnl : ns.length ≤ 1000 := by
        have := hp.length_eq
        rw [List.length_append] at this
        omega
      refine comp_s (capv := []) (L := ns.map V.int) (by rfl) (gives_list K p3 (ns.map V.int)) (by rw [List.length_map]; exact big hnl) hD (fun H' s' => SqL.of (s' _ _ upd_same)) posV decV ?_ ?_ ?_
      · intro v hv H' R s' h
        obtain ⟨d, hd, rfl⟩ := List.mem_map.mp hv
        exact ⟨_, rfl, _, _, rfl, rfl, _, rfl, h H' (Same.refl _)⟩
      · intro v hv _ H' R s' h
        obtain ⟨d, hd, rfl⟩ := List.mem_map.mp hv
        exact ⟨_, rfl, _, _, rfl, rfl, h H' (Same.refl _)⟩
      · intro H7 s7 e7
        have ets : (((ns.map V.int).filter posV).map decV) = (afterOf ah ts).map V.int := by
          unfold afterOf
          rw [← hc, List.filter_map, List.map_map, List.map_map]
          rfl
        rw [ets] at e7
        have s07 := s3.trans s7
        exact ⟨_, _, rfl, .inl ⟨SqL.of e7, fun l nl => q l _ (s07.put (s07.free nl)) (s07.free nl) upd_same⟩⟩
def sp_goes (K : PySem.W.Frag) : Sp := fun vs H Q _ => ∃ (k a : Addr) (ws : List V) (ks : Combs) (ah : List Int), vs = [.ref k, .ref a] ∧ H k = some (.lst ws) ∧ KindsL (fun _ => True) H ws ks ∧ ks.length ≤ 100 ∧ (∀ c ∈ ks, GT c.2) ∧ SqT K H a (ah.map V.int) ∧ ah.Nodup ∧ (∀ d ∈ ah, 0 ≤ d ∧ d ≤ 6) ∧
  ∀ p H' vs', Same H H' → H p = none → H' p = some (.lst vs') → GoesR H' vs' (goesOf ks ah) → Q (.ref p) H'
theorem sc_goes : FnScope ["_law_kinds", "_law_ahead_here", "_law_found", "_law_word_here", "_law_teeth_here", "_law_further"] ["_law_kinds", "_law_ahead_here"] (defScope s_goes) := ⟨rfl, rfl, rfl, by decide +kernel, rfl, by decide +kernel, by decide +kernel⟩
theorem ok_goes (D : DefAt K mg "_law_goes" s_goes) (T : Bn mg) (C_after : Callee P w K mg base "_law_after" 1 ["_law_ahead_here", "_law_teeth_here"] (sp_after K)) : Callee P w K mg base "_law_goes" 2 ["_law_kinds", "_law_ahead_here"] (sp_goes K) := by
  refine D.callee sc_goes (fun _ _ _ _ _ _ us hl => match us, hl with | [_, _], _ => rfl) (fun vs H Q E h => ?_) (fun f cdv A outer s H vs Q E hr h => ?_)
  · obtain ⟨k, a, ws, ks, ah, rfl, _⟩ := h
    rfl
  · obtain ⟨k, a, ws, ks, ah, rfl, hk, kr, hkl, hg, ha, an, ar, q⟩ := h
    have S := sc_goes
    have hlen := kr.length
    refine ⟨_, pss_cons (ps_if (pt_cmpR op_in_seq (pe_int) (pv 1) (by with_unfolding_all rfl))
      (pss_one (ps_ret (pe_lst (pa_cons (pe_tup (pa_cons (pe_str) (pa_cons (pe_fn C_after (hr.mono (by decide)) rfl (pa_cons (pv 1) (pa_cons (pe_lst (pa_nil)) pa_nil))) pa_nil))) pa_nil))))
      (pss_nil))
    (pss_cons (ps_set (i := 2) S.nd rfl (Or.inl rfl) (pe_lst (pa_nil)))
    (pss_cons (ps_for PassesOwn.never rfl (pi_list (pv 0)) (pg_lst rfl (pgs_cons (pg_name (i := 3) S.nd rfl (Or.inl rfl)) (pgs_cons (pg_name (i := 4) S.nd rfl (Or.inl rfl)) (pgs_nil))))
      (pss_cons (ps_set (i := 5) S.nd rfl (Or.inl rfl) (pe_fn C_after (hr.mono (by decide)) rfl (pa_cons (pv 1) (pa_cons (pv 4) pa_nil))))
      (pss_one (ps_if (pt_cmpR op_notN (pv 5) (pe_non) (nomark _))
        (pss_one (ps_expr (pe_bm PySem.F.plainAttrs_list PySem.F.slot_list_append PySem.F.type_list_append mt_append (pv 2) (pa_cons (pe_tup (pa_cons (pv 3) (pa_cons (pv 5) pa_nil))) pa_nil))))
        (pss_nil)))))
    (pss_one (ps_ret (pv 2))))), ?_⟩
    refine ⟨_, rfl, _, _, rfl, .inr ha, rfl, flats ah, _, rfl, ?_⟩
    rw [if_neg (by decide), in_intS]
    refine ite2 (fun hc => ?_) (fun hc => ?_)
    · have hc : (0 : Int) ∈ ah := by simpa using hc
      refine ⟨_, rfl, bigr rfl, fun p0 np0 => ⟨a, p0, ah, [], rfl, (Same.new np0).tup ha, upd_same, an, ar, List.nodup_nil, by simp, ?_⟩⟩
      rw [if_neg (show ¬ meets ah [] = true from Bool.false_ne_true)]
      intro p1 H1 s1 n1 e1
      refine ⟨bigr rfl, fun p2 np2 => ⟨bigr rfl, fun p3 np3 => ?_⟩⟩
      have s01 : Same H H1 := (Same.new np0).trans s1
      have s2 := s01.trans (Same.new (o := .tup [.str "", .ref p1]) np2)
      refine q p3 _ [.ref p2] (s2.trans (Same.new np3)) (s2.free np3) upd_same ?_
      rw [goes_in hc]
      have e2 : upd H1 p2 (.tup [.str "", .ref p1]) p2 = some (.tup [.str "", .ref p1]) := upd_same
      have e1' : upd H1 p2 (.tup [.str "", .ref p1]) p1 = some (.tup ((afterOf ah []).map V.int)) := by rw [upd_ne (ne_of_none e1 np2)]; exact e1
      refine ⟨⟨p2, p1, rfl, ?_, ?_⟩, trivial⟩
      · rw [upd_ne (ne_of_none e2 np3)]; exact e2
      · rw [upd_ne (ne_of_none e1' np3)]; exact e1'
    · have hc : (0 : Int) ∉ ah := by simpa using hc
      refine ⟨bigr rfl, fun pf npf => ?_⟩
      have s1 : Same H (upd H pf (.lst [])) := Same.new npf
      refine ⟨_, rfl, _, rfl, ⟨_, SqL.of (s1 _ _ hk)⟩, ?_⟩
      refine for_g (gives_list K k ws) (fun i σ Hx => Same H Hx ∧ ∃ vs x3 x4 x5, σ = [some (.ref k), some (.ref a), some (.ref pf), x3, x4, x5] ∧ Hx pf = some (.lst vs) ∧ vs.length ≤ i ∧ GoesR Hx vs (goesOf (ks.take i) ah)) ⟨s1, [], _, _, _, rfl, upd_same, Nat.le_refl _, ?_⟩ (fun i σ Hx _ h => SqL.of (h.1 _ _ hk)) ?_ ?_
      · rw [List.take_zero, goes_nil hc]
        trivial
      · rintro i x σ Hx hx ⟨sx, vs, x3, x4, x5, rfl, hpf, hvl, hgr⟩
        obtain ⟨c, qa, t, hkc, rfl, hq, ht⟩ := (kr.same sx).get hx
        have hi : i < ks.length := (List.getElem?_eq_some_iff.mp hkc).1
        have gc := hg c (List.mem_of_getElem? hkc)
        refine ⟨qa, _, rfl, SqL.of hq, rfl, _, _, rfl, _, _, rfl, rfl, ?_⟩
        refine ⟨_, rfl, _, rfl, a, t, ah, c.2, rfl, sx.tup ha, ht, an, ar, nodup_lt (gt_lt gc), gt_in gc, ?_⟩
        by_cases hm : meets ah c.2 = true
        · rw [if_pos hm]
          refine ⟨_, rfl, rfl, _, rfl, iteF ?_⟩
          refine ⟨sx, vs, _, _, _, rfl, hpf, by omega, ?_⟩
          rw [take_snoc hkc, goes_snoc hc, if_pos hm, List.append_nil]
          exact hgr
        · rw [if_neg hm]
          intro p1 H1 s1' n1 e1
          refine ⟨_, rfl, rfl, _, rfl, iteT ?_⟩
          have sx1 := s1'
          refine ⟨_, rfl, .inl ⟨rfl, _, SqL.of (s1' _ _ hpf)⟩, _, rfl, _, rfl, bigr rfl, fun p2 np2 => ?_⟩
          have s2 : Same Hx (upd H1 p2 (.tup [.str c.1, .ref p1])) := s1'.trans (Same.new np2)
          have e2 : upd H1 p2 (.tup [.str c.1, .ref p1]) p2 = some (.tup [.str c.1, .ref p1]) := upd_same
          have e1' : upd H1 p2 (.tup [.str c.1, .ref p1]) p1 = some (.tup ((afterOf ah c.2).map V.int)) := by rw [upd_ne (ne_of_none e1 np2)]; exact e1
          have hpf2 := s2 _ _ hpf
          refine ⟨pf, _, _, rfl, rfl, hpf2, Nat.lt_of_lt_of_le (by omega : vs.length < 1000) sizeBig, ?_⟩
          have tn : ∀ q' xs, upd H1 p2 (.tup [.str c.1, .ref p1]) q' = some (.tup xs) → upd (upd H1 p2 (.tup [.str c.1, .ref p1])) pf (.lst (vs ++ [.ref p2])) q' = some (.tup xs) := fun q' xs h => by
            have : q' ≠ pf := fun z => by rw [z, hpf2] at h; cases h
            rw [upd_ne this]; exact h
          refine ⟨(sx.trans s2).put npf, _, _, _, _, rfl, upd_same, (by rw [List.length_append, List.length_singleton]; omega), ?_⟩
          rw [take_snoc hkc, goes_snoc hc, if_neg hm]
          exact GoesR.snoc (s := (c.1, afterOf ah c.2)) (tn _ _ e2) (tn _ _ e1') (hgr.mono fun q' xs h => tn _ _ (s2 _ _ h))
      · rintro σ Hx ⟨sx, vs, x3, x4, x5, rfl, hpf, hvl, hgr⟩
        rw [hlen, List.take_length] at hgr
        exact ⟨_, rfl, q pf Hx vs sx npf hpf hgr⟩
theorem gt_not {ks : List (Str × List Int)} (nd : (ks.map (·.1)).Nodup) {i : Nat} {k : Str × List Int} (h : ks[i]? = some k) : cGet (ks.take i) k.1 = none := by
  rw [get_none]
  intro hm
  obtain ⟨c, hc, e⟩ := List.mem_map.mp hm
  obtain ⟨j, hj, ej⟩ := List.getElem_of_mem hc
  have hi := (List.getElem?_eq_some_iff.mp h).1
  have hj' : j < i := by
    have := hj
    rw [List.length_take] at this
    omega
  have e1 : (ks.map (·.1))[j]? = some k.1 := by
    rw [List.getElem?_map, List.getElem?_eq_getElem (by omega)]
    rw [List.getElem_take] at ej
    rw [ej]
    exact congrArg some e
  have e2 : (ks.map (·.1))[i]? = some k.1 := by rw [List.getElem?_map, h]; rfl
  have := (List.getElem?_inj (by rw [List.length_map]; omega) nd).mp (e1.trans e2.symm)
  omega
def sp_mkbook (C : Addr) : Sp := fun vs H Q _ => ∃ (a : Addr) (ws : List V) (ks : List (Str × List Int)), vs = [.ref a] ∧ H a = some (.lst ws) ∧ Drawn (fun _ => True) H ws ks ∧ ks.length ≤ 8 ∧
  ∀ b l G past H', Same H H' → H b = none → H l = none → (∀ x, G x → H x = none) → Bk C G H' b l ks past → past.length = ks.length → Q (.ref b) H'
theorem sc_book : FnScope ["_law_kinds", "_law_book_here", "_law_word_here", "_law_teeth_here"] ["_law_kinds"] (defScope s_book) := ⟨rfl, rfl, rfl, by decide +kernel, rfl, by decide +kernel, by decide +kernel⟩
theorem ok_mkbook {ea : Nat → Addr} {C : Addr} (D : DefAt K mg "_law_book" s_book) (T : Bn mg) (BA : BookAt K C) (C_Book : Maker P w K mg base "Book" C CX0 1 ["self"] (sp_init C)) (M_put : Method P w K mg base C "put" (CX1 P w) 3 ["self", "name", "teeth"] (sp_put (K := K) ea C)) : Callee P w K mg base "_law_book" 4 ["_law_kinds"] (sp_mkbook C) := by
  refine D.callee sc_book (fun _ _ _ _ _ _ us hl => match us, hl with | [_], _ => rfl) (fun vs H Q E h => ?_) (fun f cdv A outer s H vs Q E hr h => ?_)
  · obtain ⟨a, ws, ks, rfl, _⟩ := h
    rfl
  · obtain ⟨a, ws, ks, rfl, ha, dr, hk8, q⟩ := h
    have S := sc_book
    have hu := hu_of hr
    have B_cls := BA.cls
    have hlen := dr.rows.length
    refine ⟨_, pss_cons (ps_set (i := 1) S.nd rfl (Or.inl rfl) (pe_mk0 C_Book (hr.mono (by decide)) (by first | exact pass0 | exact pass_try | exact pass1 | exact pass_E0) rfl))
    (pss_cons (ps_for PassesOwn.never rfl (pi_list (pv 0)) (pg_lst rfl (pgs_cons (pg_name (i := 2) S.nd rfl (Or.inl rfl)) (pgs_cons (pg_name (i := 3) S.nd rfl (Or.inl rfl)) (pgs_nil))))
      (pss_one (ps_expr (pe_mt (pv 1) B_cls M_put (hr.mono (by decide)) (by first | exact pass0 | exact pass_try | exact pass1 | exact pass_E0) (pa_cons (pv 2) (pa_cons (pe_callTy call_list_of rfl T.n_list boot_list (pa_cons (pv 3) pa_nil)) pa_nil))))))
    (pss_one (ps_ret (pv 1)))), ?_⟩
    refine fun b dx nb ndx ndb => ⟨b, dx, rfl, upd_same, fun H1 l d m nl nd B => ⟨rfl, ?_⟩⟩
    have hlb : l ≠ b := fun z => by rw [z, upd_same] at nl; cases nl
    have nl0 : H l = none := by
      rw [upd_ne hlb] at nl
      by_cases z : l = dx
      · rw [z]; exact ndx
      · rw [upd_ne z] at nl; exact nl
    have hdb : d ≠ b := fun z => by rw [z, upd_same] at nd; cases nd
    have nd0 : H d = none := by
      rw [upd_ne hdb] at nd
      by_cases z : d = dx
      · rw [z]; exact ndx
      · rw [upd_ne z] at nd; exact nd
    have s1 : Same H H1 := fun x o e => m.keep x o (by rw [upd_ne (ne_of_none e nb), upd_ne (ne_of_none e ndx)]; exact e) (ne_of_none e nb) (ne_of_none e nb)
    refine ⟨_, rfl, _, rfl, ⟨_, SqL.of (s1 _ _ ha)⟩, ?_⟩
    refine for_g (gives_list K a ws) (fun i σ H2 => Same H H2 ∧ ∃ G past x2 x3, σ = [some (.ref a), some (.ref b), x2, x3] ∧ Bk C G H2 b l (ks.take i) past ∧ past.length = i ∧ ∀ x, G x → H x = none) ⟨s1, _, [], _, _, rfl, B, rfl, fun x g => by rw [show x = d from g]; exact nd0⟩ (fun i σ H2 _ h => SqL.of (h.1 _ _ ha)) ?_ ?_
    · rintro i x σ H2 hx ⟨s2, G, past, x2, x3, rfl, B2, hp, hG⟩
      obtain ⟨k, qa, t, hk, rfl, hq, ht⟩ := (dr.same s2).rows.get hx
      have hi : i < ks.length := (List.getElem?_eq_some_iff.mp hk).1
      obtain ⟨hkn, hkg⟩ := dr.good k (List.mem_of_getElem? hk)
      obtain ⟨dx2, d2, hb2, _⟩ := id B2.ins
      refine ⟨qa, _, rfl, SqL.of hq, rfl, _, _, rfl, _, _, rfl, rfl, ?_⟩
      refine ⟨_, rfl, b, dx2, _, rfl, hb2, rfl, _, rfl, _, rfl, t, _, rfl, .inl (SqL.of ht), fun p np => ?_⟩
      have s3 : Same H2 (upd H2 p (.lst (k.2.map V.int))) := Same.new np
      refine ⟨b, l, G, _, past, k.1, p, k.2, rfl, B2.same s3, SqL.of upd_same, ?_, ?_, ?_⟩
      · exact big (by have := name_len hkn; omega)
      · have := gt_len hkg; omega
      have hlt : (ks.take i).length = i := by rw [List.length_take]; omega
      have e : putD (ks.take i) past k.1 k.2 = .ok (ks.take (i + 1)) := by
        unfold putD full
        rw [if_neg (by rw [hkn]; decide), if_neg (by rw [gt_teeth hkg]; decide), gt_not dr.nd hk, if_neg (by simp), if_neg (by omega), if_neg (by omega), put_new (gt_not dr.nd hk), gt_eq hkg, take_snoc hk]
      rw [e]
      intro H4 G4 m4 B4
      refine ⟨fun x o e' => m4.keep x o (s3 _ _ (s2 _ _ e')) (ne_of_none e' nb) (ne_of_none e' nl0), G4, _, _, _, rfl, B4, by rw [List.length_append, List.length_singleton, hp], fun x g => ?_⟩
      rcases m4.new x g with g | g
      · exact hG x g
      · exact (s2.trans s3).free g
    · rintro σ H2 ⟨s2, G, past, x2, x3, rfl, B2, hp, hG⟩
      rw [List.take_of_length_le (by omega)] at B2
      exact ⟨_, rfl, q b l G past H2 s2 nb nl0 hG B2 (by omega)⟩
theorem at0 {x y : V} : atI [x, y] 0 = some x := show atI [x, y] ((0 : Nat) : Int) = _ from atI_nat rfl
theorem at1 {x y : V} : atI [x, y] 1 = some y := show atI [x, y] ((1 : Nat) : Int) = _ from atI_nat rfl
def sp_refused (K : PySem.W.Frag) : Sp := fun vs H Q _ => ∃ (a l : Addr) (x : Str), vs = [.ref a, .str x] ∧ PyData.strOk x = true ∧ H a = some (.tup [.str (Str.ofString "refused"), .ref l]) ∧ H l = some (.lst [.str x]) ∧ ∀ H', Same H H' → Q (.bl true) H'
theorem shaped_one {x : Str} (h : PyData.strOk x = true) : SeqAt.shaped (.list [.str x]) = true := by simp [h, SeqAt.shaped, PyData.canLay0, PyData.canLayAll0, PyData.depth, PyData.depthAll]
theorem eqv_one (x : Str) : PyData.eqv (.list [.str x]) (.list [.str x]) = true := by simp [PyData.eqv, PyData.eqvAll]
theorem sc_refused : FnScope ["_law_found", "_law_due"] ["_law_found", "_law_due"] (defScope s_refused) := ⟨rfl, rfl, rfl, by decide +kernel, rfl, by decide +kernel, by decide +kernel⟩
theorem ok_refused (D : DefAt K mg "_law_refused" s_refused) (T : Bn mg) : Callee P w K mg base "_law_refused" 2 ["_law_found", "_law_due"] (sp_refused K) := by
  refine D.callee sc_refused (fun _ _ _ _ _ _ us hl => match us, hl with | [_, _], _ => rfl) (fun vs H Q E h => ?_) (fun f cdv A outer s H vs Q E hr h => ?_)
  · obtain ⟨a, l, x, rfl, _⟩ := h
    rfl
  · obtain ⟨a, l, x, rfl, hok, ha, hl, q⟩ := h
    have S := sc_refused
    have a0 : atI [V.str (Str.ofString "refused"), V.ref l] 0 = some (V.str (Str.ofString "refused")) := at0
    have a1 : atI [V.str (Str.ofString "refused"), V.ref l] 1 = some (V.ref l) := at1
    refine ⟨_, pss_cons (ps_if (PW.pt (pw_or (pt_not (pt_val (pe_callB (call_isT "tuple") rfl T.n_isinstance boot_isinstance (pa_cons (pv 0) (pa_cons (pe_bltn (v := .ty "tuple") rfl T.n_tuple boot_tuple rfl) pa_nil))))) (pw_or (pt_cmpR op_ne (pe_callB call_len_seq rfl T.n_len PySem.boot_len (pa_cons (pv 0) pa_nil)) (pe_int) (nomark _)) (pw_or1 (pt_cmpR op_ne (pe_ix ix_tup (pv 0) (pe_int) (fun _ _ => rfl)) (pe_str) (nomark _))))))
      (pss_one (ps_ret (pe_bl)))
      (pss_nil))
    (pss_one (ps_ret (pe_cmpR (op_eqD hr.units) (pe_ix ix_tup (pv 0) (pe_int) (fun _ _ => rfl)) (pe_lst (pa_cons (pv 1) pa_nil)) (nomark _)))), ?_⟩
    refine ⟨_, rfl, _, _, true, rfl, .tup ha, rfl, _, rfl, ?_⟩
    refine iteF ?_
    refine ⟨_, rfl, _, _, rfl, .inr (SqT.of ha), rfl, _, rfl, ?_⟩
    refine iteF ?_
    refine ⟨_, rfl, _, _, _, _, rfl, rfl, SqT.of ha, a0, rfl, _, rfl, ?_⟩
    refine iteF ?_
    refine ⟨_, rfl, _, _, _, _, rfl, rfl, SqT.of ha, a1, _, rfl, bigr rfl, fun p np => ?_⟩
    have s1 : Same H (upd H p (.lst [.str x])) := Same.new np
    refine ⟨_, _, .lst (SqL.of (s1 _ _ hl)) (.cons (.str x) .nil), .lst (SqL.of upd_same) (.cons (.str x) .nil), shaped_one hok, shaped_one hok, ?_⟩
    rw [if_neg Bool.false_ne_true, eqv_one]
    exact q _ s1
--CUT--
/-! ### shapes as places -/
theorem at_worths7 {t : Int} (h0 : 0 ≤ t) (h6 : t ≤ 6) : atI (([1, 2, 4, 8, 16, 32, 64] : List Int).map V.int) t = some (.int (pw t)) := by
  have : t = 0 ∨ t = 1 ∨ t = 2 ∨ t = 3 ∨ t = 4 ∨ t = 5 ∨ t = 6 := by omega
  rcases this with h | h | h | h | h | h | h <;> subst h <;> rfl
def sp_number (K : PySem.W.Frag) : Sp := fun vs H Q _ => ∃ (a : Addr) (ds : List Int), vs = [.ref a] ∧ SqT K H a (ds.map V.int) ∧ (∀ d ∈ ds, 0 ≤ d ∧ d ≤ 6) ∧ ds.length ≤ 1000 ∧ ∀ H', Same H H' → Q (.int (worth ds)) H'
theorem sc_number : FnScope ["_law_ahead_here"] ["_law_ahead_here"] (defScope s_number) := ⟨rfl, rfl, rfl, by decide +kernel, rfl, by decide +kernel, by decide +kernel⟩
theorem ok_number (D : DefAt K mg "_law_number" s_number) (T : Bn mg) : Callee P w K mg base "_law_number" 1 ["_law_ahead_here"] (sp_number K) := by
  refine D.callee sc_number (fun _ _ _ _ _ _ us hl => match us, hl with | [_], _ => rfl) (fun vs H Q E h => ?_) (fun f cdv A outer s H vs Q E hr h => ?_)
  · obtain ⟨a, ds, rfl, _⟩ := h
    rfl
  · obtain ⟨a, ds, rfl, ha, hr6, hl, q⟩ := h
    have S := sc_number
    refine ⟨_, pss_one (ps_ret (pe_callB (call_sum1 rfl) rfl T.n_sum boot_sum (pa_cons (pe_comp (own := ["_law_d"]) (caps := []) rfl ⟨rfl, rfl, rfl, rfl, trivial⟩ (pi_tup (pv 0)) (fun _ _ _ _ _ _ => pg_name (i := 0) (nd_comp (by decide +kernel)) rfl (Or.inl rfl)) (fun _ _ _ _ _ _ => pts_nil) (fun _ _ _ _ _ _ => pe_ix (ix_list' K rfl) (pe_lst (pa_cons (pe_int) (pa_cons (pe_int) (pa_cons (pe_int) (pa_cons (pe_int) (pa_cons (pe_int) (pa_cons (pe_int) (pa_cons (pe_int) pa_nil)))))))) (pv 0) (fun _ _ => rfl))) pa_nil))), ?_⟩
    refine ⟨_, rfl, _, rfl, ⟨_, ha⟩, fun D hD => ?_⟩
    refine comp_s (capv := []) (L := ds.map V.int) (by rfl) (gives_tup K a (ds.map V.int)) (by rw [List.length_map]; exact big hl) hD ?_ (fun _ => true) (fun v => match v with | .int t => .int (pw t) | _ => .non) ?_ ?_ ?_
    · exact fun H' s' => s'.tup ha
    · exact fun v hv H' R s' h => h H' (Same.refl _)
    · intro v hv _ H' R s' h
      obtain ⟨t, ht, rfl⟩ := List.mem_map.mp hv
      obtain ⟨h0, h6⟩ := hr6 t ht
      refine ⟨bigr rfl, fun p np => ?_⟩
      have h : R (.int (pw t)) _ := h (upd H' p (.lst (([1, 2, 4, 8, 16, 32, 64] : List Int).map V.int))) (Same.new np)
      exact ⟨_, rfl, _, _, _, _, rfl, rfl, SqL.of upd_same, at_worths7 h0 h6, h⟩
    · intro H' s' e
      refine ⟨_, ds.map pw, rfl, ?_, q H' s'⟩
      refine SqL.of ?_
      rw [e]
      congr 2
      rw [List.filter_eq_self.mpr (fun _ _ => rfl), List.map_map, List.map_map]
      rfl
theorem bit_test {n : Int} (h : 0 ≤ n) (i : Nat) : decide (Builtin.bitAnd (n / 2 ^ (0 + ((i : Nat) : Int)).toNat) 1 = 1) = n.toNat.testBit i := by
  rw [bitAnd_m1, show (0 + ((i : Nat) : Int)).toNat = i by omega, Bool.eq_iff_iff, decide_eq_true_eq, Nat.testBit_eq_decide_div_mod_eq, decide_eq_true_eq]
  obtain ⟨m, rfl⟩ := Int.eq_ofNat_of_zero_le h
  rw [Int.toNat_natCast, show ((m : Int) / 2 ^ i) = ((m / 2 ^ i : Nat) : Int) by push_cast; rfl]
  omega
def sp_ahead : Sp := fun vs H Q _ => ∃ (n : Int), vs = [.int n] ∧ 0 ≤ n ∧ ∀ p H', Same H H' → H' p = some (.tup ((aheadOf n).map V.int)) → Q (.ref p) H'
theorem sc_ahead : FnScope ["_law_number_here"] ["_law_number_here"] (defScope s_ahead) := ⟨rfl, rfl, rfl, by decide +kernel, rfl, by decide +kernel, by decide +kernel⟩
theorem ok_ahead (D : DefAt K mg "_law_ahead" s_ahead) (T : Bn mg) : Callee P w K mg base "_law_ahead" 1 ["_law_number_here"] sp_ahead := by
  refine D.callee sc_ahead (fun _ _ _ _ _ _ us hl => match us, hl with | [_], _ => rfl) (fun vs H Q E h => ?_) (fun f cdv A outer s H vs Q E hr h => ?_)
  · obtain ⟨n, rfl, _⟩ := h
    rfl
  · obtain ⟨n, rfl, h0, q⟩ := h
    have S := sc_ahead
    refine ⟨_, pss_one (ps_ret (pe_callTy call_tuple_of rfl T.n_tuple boot_tuple (pa_cons (pe_comp (own := ["_law_d"]) (caps := [(0, "_law_number_here")]) rfl ⟨rfl, rfl, rfl, rfl, ⟨⟨rfl, rfl, .inl rfl⟩, trivial⟩⟩ (pi_range1 rfl T.n_range (pa_cons (pe_int) pa_nil)) (fun _ _ _ _ _ _ => pg_name (i := 0) (nd_comp (by decide +kernel)) rfl (Or.inl rfl)) (fun _ _ _ _ _ _ => pts_one (pt_cmpR op_eq (pe_op op_and (pe_op op_shr (pv 1) (pv 0)) (pe_int)) (pe_int) (nomark _))) (fun _ _ _ _ _ _ => pv 0)) pa_nil))), ?_⟩
    refine ⟨_, rfl, by decide, by decide, fun Dc hD => ?_⟩
    refine comp_s (capv := [some (.int n)]) (by rfl) (gives_range 0 (7 : Int).toNat) (bigr rfl) hD ?_ (bitOf n) (fun v => v) ?_ ?_ ?_
    · exact fun _ _ => trivial
    · intro v hv H' R s' h
      obtain ⟨t, ht, rfl⟩ := List.mem_map.mp hv
      refine ⟨_, rfl, _, rfl, _, _, rfl, rfl, ?_, _, _, rfl, rfl, rfl, _, rfl, ?_⟩
      · show (0 : Int) ≤ 0 + ((t : Nat) : Int)
        omega
      rw [dec_ii]
      exact h H' (Same.refl _)
    · intro v hv hp H' R s' h
      exact ⟨_, rfl, h H' (Same.refl _)⟩
    · intro H7 s7 e7
      have ets : (((((List.range (7 : Int).toNat).map fun i => V.int (0 + ((i : Nat) : Int))).filter (bitOf n)).map fun v => v)) = (aheadOf n).map V.int := by
        rw [List.map_id', List.filter_map]
        unfold aheadOf
        rw [List.map_map]
        have : (List.filter (bitOf n ∘ fun i => V.int (0 + ((i : Nat) : Int))) (List.range (7 : Int).toNat)) = (List.range 7).filter fun d => n.toNat.testBit d := List.filter_congr fun i _ => bit_test h0 i
        rw [this]
        refine List.map_congr_left fun i _ => ?_
        show V.int (0 + ((i : Nat) : Int)) = V.int ((i : Nat) : Int)
        rw [Int.zero_add]
      rw [ets] at e7
      exact ⟨_, _, rfl, .inl ⟨SqL.of e7, fun l nl => q l _ (s7.put (s7.free nl)) upd_same⟩⟩
def sp_laying : Sp := fun vs H Q _ => ∃ (q : Addr) (a : Int) (x : Str), vs = [.ref q] ∧ H q = some (.tup [.int a, .str x]) ∧ Q (.bl true) H
theorem sc_laying : FnScope ["_law_one"] ["_law_one"] (defScope s_laying) := ⟨rfl, rfl, rfl, by decide +kernel, rfl, by decide +kernel, by decide +kernel⟩
theorem ok_laying (D : DefAt K mg "_law_laying" s_laying) (T : Bn mg) (C_whole : Callee P w K mg base "_law_whole" 1 ["_law_found"] sp_whole) : Callee P w K mg base "_law_laying" 2 ["_law_one"] sp_laying := by
  refine D.callee sc_laying (fun _ _ _ _ _ _ us hl => match us, hl with | [_], _ => rfl) (fun vs H Q E h => ?_) (fun f cdv A outer s H vs Q E hr h => ?_)
  · obtain ⟨qa, a, x, rfl, _⟩ := h
    rfl
  · obtain ⟨qa, a, x, rfl, hq, q⟩ := h
    have S := sc_laying
    refine ⟨_, pss_cons (ps_if (PW.pt (pw_or (pt_not (pt_val (pe_callB (call_isT "tuple") rfl T.n_isinstance boot_isinstance (pa_cons (pv 0) (pa_cons (pe_bltn (v := .ty "tuple") rfl T.n_tuple boot_tuple rfl) pa_nil))))) (pw_or1 (pt_cmpR op_ne (pe_callB call_len_seq rfl T.n_len PySem.boot_len (pa_cons (pv 0) pa_nil)) (pe_int) (nomark _)))))
      (pss_one (ps_ret (pe_bl)))
      (pss_nil))
    (pss_one (ps_ret (pe_and (pe_fn C_whole (hr.mono (by decide)) rfl (pa_cons (pe_ix ix_tup (pv 0) (pe_int) (fun _ _ => rfl)) pa_nil)) (pe_one (pe_callB (call_isT "str") rfl T.n_isinstance boot_isinstance (pa_cons (pe_ix ix_tup (pv 0) (pe_int) (fun _ _ => rfl)) (pa_cons (pe_bltn (v := .ty "str") rfl T.n_str boot_str rfl) pa_nil))))))), ?_⟩
    refine ⟨_, rfl, _, _, true, rfl, .tup hq, rfl, _, rfl, ?_⟩
    refine iteF ?_
    refine ⟨_, rfl, _, _, rfl, .inr (SqT.of hq), rfl, _, rfl, ?_⟩
    refine iteF ?_
    refine ⟨_, rfl, _, _, _, _, rfl, rfl, SqT.of hq, at0, a, rfl, _, rfl, ?_⟩
    refine iteT ?_
    exact ⟨_, rfl, _, _, _, _, rfl, rfl, SqT.of hq, at1, _, _, true, rfl, .str x, rfl, q⟩
def sp_layings : Sp := fun vs H Q _ => ∃ (p : Addr) (ws : List V), vs = [.ref p] ∧ H p = some (.lst ws) ∧ (∀ (i : Nat) x, ws[i]? = some x → ∃ q a s, x = .ref q ∧ H q = some (.tup [.int a, .str s])) ∧ Q (.bl true) H
theorem sc_layings : FnScope ["_law_found", "_law_one"] ["_law_found"] (defScope s_layings) := ⟨rfl, rfl, rfl, by decide +kernel, rfl, by decide +kernel, by decide +kernel⟩
theorem ok_layings (D : DefAt K mg "_law_layings" s_layings) (T : Bn mg) (C_laying : Callee P w K mg base "_law_laying" 2 ["_law_one"] sp_laying) : Callee P w K mg base "_law_layings" 3 ["_law_found"] sp_layings := by
  refine D.callee sc_layings (fun _ _ _ _ _ _ us hl => match us, hl with | [_], _ => rfl) (fun vs H Q E h => ?_) (fun f cdv A outer s H vs Q E hr h => ?_)
  · obtain ⟨p, ws, rfl, _⟩ := h
    rfl
  · obtain ⟨p, ws, rfl, hp, hw, q⟩ := h
    have S := sc_layings
    refine ⟨_, pss_cons (ps_if (pt_not (pt_val (pe_callB (call_isT "list") rfl T.n_isinstance boot_isinstance (pa_cons (pv 0) (pa_cons (pe_bltn (v := .ty "list") rfl T.n_list boot_list rfl) pa_nil)))))
      (pss_one (ps_ret (pe_bl)))
      (pss_nil))
    (pss_cons (ps_for PassesOwn.never rfl (pi_list (pv 0)) (pg_name (i := 1) S.nd rfl (Or.inl rfl))
      (pss_one (ps_if (pt_not (pt_val (pe_fn C_laying (hr.mono (by decide)) rfl (pa_cons (pv 1) pa_nil))))
        (pss_one (ps_ret (pe_bl)))
        (pss_nil))))
    (pss_one (ps_ret (pe_bl)))), ?_⟩
    refine ⟨_, rfl, _, _, true, rfl, .lst hp, rfl, _, rfl, ?_⟩
    refine iteF ?_
    refine ⟨_, rfl, _, rfl, ⟨_, SqL.of hp⟩, ?_⟩
    refine for_g (gives_list K p ws) (fun i σ Hx => Hx = H ∧ ∃ x1, σ = [some (.ref p), x1]) ⟨rfl, _, rfl⟩ (fun i σ Hx _ h => by rw [h.1]; exact SqL.of hp) ?_ ?_
    · rintro i x σ Hx hx ⟨rfl, x1, rfl⟩
      obtain ⟨qa, a, x', rfl, e⟩ := hw i x hx
      refine ⟨_, rfl, qa, a, x', rfl, e, _, rfl, ?_⟩
      refine iteF ?_
      exact ⟨rfl, _, rfl⟩
    · rintro σ Hx ⟨rfl, x1, rfl⟩
      exact q
theorem at4 {x y z u : V} : atI [x, y, z, u] 0 = some x ∧ atI [x, y, z, u] 1 = some y ∧ atI [x, y, z, u] 2 = some z ∧ atI [x, y, z, u] 3 = some u := ⟨show atI _ ((0 : Nat) : Int) = _ from atI_nat rfl, show atI _ ((1 : Nat) : Int) = _ from atI_nat rfl, show atI _ ((2 : Nat) : Int) = _ from atI_nat rfl, show atI _ ((3 : Nat) : Int) = _ from atI_nat rfl⟩
theorem lays_each {H : Hp} {ws : List V} {nm : Nat → Str} {n : Nat} (r : LaysR H ws nm n) : ∀ (i : Nat) x, ws[i]? = some x → ∃ q a s, x = .ref q ∧ H q = some (.tup [.int a, .str s]) := fun i x h => by
  obtain ⟨j, _, q, e1, e2⟩ := Paired.rev r h
  exact ⟨q, _, _, e1, e2⟩
def sp_lineform : Sp := fun vs H Q _ => ∃ (t : Addr) (C : Combs), vs = [.ref t] ∧ LineR H t C ∧ ∀ H', Same H H' → Q (.bl true) H'
theorem sc_lineform : FnScope ["_law_told"] ["_law_told"] (defScope s_lineform) := ⟨rfl, rfl, rfl, by decide +kernel, rfl, by decide +kernel, by decide +kernel⟩
theorem ok_lineform (D : DefAt K mg "_law_lineform" s_lineform) (T : Bn mg) (C_whole : Callee P w K mg base "_law_whole" 1 ["_law_found"] sp_whole) (C_layings : Callee P w K mg base "_law_layings" 3 ["_law_found"] sp_layings) : Callee P w K mg base "_law_lineform" 4 ["_law_told"] sp_lineform := by
  refine D.callee sc_lineform (fun _ _ _ _ _ _ us hl => match us, hl with | [_], _ => rfl) (fun vs H Q E h => ?_) (fun f cdv A outer s H vs Q E hr h => ?_)
  · obtain ⟨t, C, rfl, _⟩ := h
    rfl
  · obtain ⟨t, C, rfl, lr, q⟩ := h
    have S := sc_lineform
    refine ⟨_, pss_cons (ps_if (PW.pt (pw_or (pt_not (pt_val (pe_callB (call_isT "tuple") rfl T.n_isinstance boot_isinstance (pa_cons (pv 0) (pa_cons (pe_bltn (v := .ty "tuple") rfl T.n_tuple boot_tuple rfl) pa_nil))))) (pw_or (pt_cmpR op_lt (pe_callB call_len_seq rfl T.n_len PySem.boot_len (pa_cons (pv 0) pa_nil)) (pe_int) (nomark _)) (pw_or1 (pt_not (pt_val (pe_callB (call_isT "str") rfl T.n_isinstance boot_isinstance (pa_cons (pe_ix ix_tup (pv 0) (pe_int) (fun _ _ => rfl)) (pa_cons (pe_bltn (v := .ty "str") rfl T.n_str boot_str rfl) pa_nil)))))))))
      (pss_one (ps_ret (pe_bl)))
      (pss_nil))
    (pss_cons (ps_if (pt_cmpR op_eq (pe_ix ix_tup (pv 0) (pe_int) (fun _ _ => rfl)) (pe_str) (nomark _))
      (pss_one (ps_ret (pe_and (pe_cmpR op_eq (pe_callB call_len_seq rfl T.n_len PySem.boot_len (pa_cons (pv 0) pa_nil)) (pe_int) (nomark _)) (pe_one (pe_callB (call_isT "list") rfl T.n_isinstance boot_isinstance (pa_cons (pe_ix ix_tup (pv 0) (pe_int) (fun _ _ => rfl)) (pa_cons (pe_bltn (v := .ty "list") rfl T.n_list boot_list rfl) pa_nil)))))))
      (pss_nil))
    (pss_cons (ps_if (PW.pt (pw_or (pt_cmpR op_ne (pe_ix ix_tup (pv 0) (pe_int) (fun _ _ => rfl)) (pe_str) (nomark _)) (pw_or (pt_cmpR op_ne (pe_callB call_len_seq rfl T.n_len PySem.boot_len (pa_cons (pv 0) pa_nil)) (pe_int) (nomark _)) (pw_or1 (pt_not (pt_val (pe_fn C_layings (hr.mono (by decide)) rfl (pa_cons (pe_ix ix_tup (pv 0) (pe_int) (fun _ _ => rfl)) pa_nil))))))))
      (pss_one (ps_ret (pe_bl)))
      (pss_nil))
    (pss_cons (ps_if (PW.pt (pw_or (pt_not (pt_val (pe_fn C_whole (hr.mono (by decide)) rfl (pa_cons (pe_ix ix_tup (pv 0) (pe_int) (fun _ _ => rfl)) pa_nil)))) (pw_or (pt_cmpR op_lt (pe_ix ix_tup (pv 0) (pe_int) (fun _ _ => rfl)) (pe_int) (nomark _)) (pw_or1 (pt_cmpR op_gt (pe_ix ix_tup (pv 0) (pe_int) (fun _ _ => rfl)) (pe_int) (nomark _))))))
      (pss_one (ps_ret (pe_bl)))
      (pss_nil))
    (pss_cons (ps_if (PW.pt (pw_or (pt_not (pt_val (pe_callB (call_isT "list") rfl T.n_isinstance boot_isinstance (pa_cons (pe_ix ix_tup (pv 0) (pe_int) (fun _ _ => rfl)) (pa_cons (pe_bltn (v := .ty "list") rfl T.n_list boot_list rfl) pa_nil))))) (pw_or1 (pt_cmpR op_ne (pe_callB call_len_seq rfl T.n_len PySem.boot_len (pa_cons (pe_ix ix_tup (pv 0) (pe_int) (fun _ _ => rfl)) pa_nil)) (pe_ix ix_tup (pv 0) (pe_int) (fun _ _ => rfl)) (nomark _)))))
      (pss_one (ps_ret (pe_bl)))
      (pss_nil))
    (pss_one (ps_ret (pe_callB (call_all rfl) rfl T.n_all boot_all (pa_cons (pe_comp (own := ["_law_one"]) (caps := []) rfl ⟨rfl, rfl, rfl, rfl, trivial⟩ (pi_list (pe_ix ix_tup (pv 0) (pe_int) (fun _ _ => rfl))) (fun _ _ _ _ _ _ => pg_name (i := 0) (nd_comp (by decide +kernel)) rfl (Or.inl rfl)) (fun _ _ _ _ _ _ => pts_nil) (fun _ _ _ _ _ _ => pe_fn C_whole (hr.mono (by decide)) rfl (pa_cons (pv 0) pa_nil))) pa_nil)))))))), ?_⟩
    rcases lr with ⟨sp, fs, nm, ps, pl, ws, ld, ht, hps, hpl, la⟩ | ⟨m, pc, sd, hm, ht, hpc⟩
    · obtain ⟨h1, h128, _⟩ := ld.span
      refine ⟨_, rfl, _, _, true, rfl, .tup ht, rfl, _, rfl, ?_⟩
      refine iteF ?_
      refine ⟨_, rfl, _, _, rfl, .inr (SqT.of ht), _, _, rfl, rfl, _, rfl, ?_⟩
      refine iteF ?_
      refine ⟨_, rfl, _, _, _, _, rfl, rfl, SqT.of ht, at4.1, _, _, true, rfl, .str _, rfl, _, rfl, ?_⟩
      refine iteF ?_
      refine ⟨_, rfl, _, _, _, _, rfl, rfl, SqT.of ht, at4.1, rfl, _, rfl, ?_⟩
      refine iteF ?_
      refine ⟨_, rfl, _, _, _, _, rfl, rfl, SqT.of ht, at4.1, rfl, _, rfl, ?_⟩
      refine iteF ?_
      refine ⟨_, rfl, _, _, rfl, .inr (SqT.of ht), rfl, _, rfl, ?_⟩
      refine iteF ?_
      refine ⟨_, rfl, _, _, _, _, rfl, rfl, SqT.of ht, at4.2.2.2, pl, ws, rfl, hpl, lays_each la, _, rfl, ?_⟩
      refine iteF ?_
      refine ⟨_, rfl, _, _, _, _, rfl, rfl, SqT.of ht, at4.2.1, _, rfl, _, rfl, ?_⟩
      refine iteF ?_
      refine ⟨_, rfl, _, _, _, _, rfl, rfl, SqT.of ht, at4.2.1, _, _, rfl, rfl, _, rfl, ?_⟩
      rw [decide_eq_false (show ¬ ((sp : Nat) : Int) < 1 by omega)]
      refine iteF ?_
      refine ⟨_, rfl, _, _, _, _, rfl, rfl, SqT.of ht, at4.2.1, _, _, rfl, rfl, _, rfl, ?_⟩
      rw [decide_eq_false (show ¬ (128 : Int) < ((sp : Nat) : Int) by omega)]
      refine iteF ?_
      refine ⟨_, rfl, _, _, _, _, rfl, rfl, SqT.of ht, at4.2.2.1, _, _, true, rfl, .lst hps, rfl, _, rfl, ?_⟩
      refine iteF ?_
      refine ⟨_, rfl, _, _, _, _, rfl, rfl, SqT.of ht, at4.2.2.1, _, _, rfl, .inl (SqL.of hps), _, rfl, _, _, _, _, rfl, rfl, SqT.of ht, at4.2.1, rfl, _, rfl, ?_⟩
      rw [List.length_map, List.length_range, decide_eq_true (rfl : V.int ((sp : Nat) : Int) = V.int ((sp : Nat) : Int))]
      refine iteF ?_
      refine ⟨_, rfl, _, _, _, _, rfl, rfl, SqT.of ht, at4.2.2.1, _, rfl, ⟨_, SqL.of hps⟩, fun D hD => ?_⟩
      refine comp_i (capv := []) (by rfl) (gives_list K ps _) (by rw [List.length_map, List.length_range]; exact big (by omega)) hD (fun H' s' => SqL.of (s' _ _ hps)) (fun _ => true) (fun _ => .bl true) (fun _ _ _ => nofun) (fun i x hx H R s' h => h H (Same.refl _)) ?_ ?_
      · intro i x hx _ H' R s' h
        rw [List.getElem?_map] at hx
        cases hk : (List.range sp)[i]? with
        | none => rw [hk] at hx; cases hx
        | some k =>
          rw [hk] at hx
          cases hx
          exact ⟨_, rfl, _, rfl, h H' (Same.refl _)⟩
      · intro H' s' e
        refine ⟨_, (List.range sp).map fun _ => true, rfl, SqL.of ?_, ?_⟩
        · rw [e, List.filter_eq_self.mpr (fun _ _ => rfl), List.length_map, List.length_range, List.map_map]
          rfl
        · rw [show ((List.range sp).map fun _ => true).all id = true by simp]
          exact q H' s'
    · refine ⟨_, rfl, _, _, true, rfl, .tup ht, rfl, _, rfl, ?_⟩
      refine iteF ?_
      refine ⟨_, rfl, _, _, rfl, .inr (SqT.of ht), _, _, rfl, rfl, _, rfl, ?_⟩
      refine iteF ?_
      refine ⟨_, rfl, _, _, _, _, rfl, rfl, SqT.of ht, at0, _, _, true, rfl, .str _, rfl, _, rfl, ?_⟩
      refine iteF ?_
      refine ⟨_, rfl, _, _, _, _, rfl, rfl, SqT.of ht, at0, rfl, _, rfl, ?_⟩
      refine iteT ?_
      refine ⟨_, rfl, _, _, rfl, .inr (SqT.of ht), rfl, _, rfl, ?_⟩
      refine iteT ?_
      exact ⟨_, rfl, _, _, _, _, rfl, rfl, SqT.of ht, at1, _, _, true, rfl, .lst hpc, rfl, q H (Same.refl H)⟩
def sp_lteeth : Sp := fun vs H Q _ => ∃ (k : Addr) (x : Str) (ws : List V) (ks : Combs) (ts : List Int) (G : Addr → Prop), vs = [.ref k, .str x] ∧ H k = some (.lst ws) ∧ Drawn G H ws ks ∧ cGet ks x = some ts ∧ ∀ t, G t → H t = some (.lst (ts.map V.int)) → Q (.ref t) H
theorem sc_teeth : FnScope ["_law_kinds", "_law_word_here", "_law_name", "_law_teeth_here"] ["_law_kinds", "_law_word_here"] (defScope s_teeth) := ⟨rfl, rfl, rfl, by decide +kernel, rfl, by decide +kernel, by decide +kernel⟩
theorem ok_lteeth (D : DefAt K mg "_law_teeth" s_teeth) (T : Bn mg) : Callee P w K mg base "_law_teeth" 1 ["_law_kinds", "_law_word_here"] sp_lteeth := by
  refine D.callee sc_teeth (fun _ _ _ _ _ _ us hl => match us, hl with | [_, _], _ => rfl) (fun vs H Q E h => ?_) (fun f cdv A outer s H vs Q E hr h => ?_)
  · obtain ⟨k, x, ws, ks, ts, G, rfl, _⟩ := h
    rfl
  · obtain ⟨k, x, ws, ks, ts, G, rfl, hk, dr, hg, q⟩ := h
    have S := sc_teeth
    have hlen := dr.rows.length
    refine ⟨_, pss_cons (ps_for PassesOwn.never rfl (pi_list (pv 0)) (pg_lst rfl (pgs_cons (pg_name (i := 2) S.nd rfl (Or.inl rfl)) (pgs_cons (pg_name (i := 3) S.nd rfl (Or.inl rfl)) (pgs_nil))))
      (pss_one (ps_if (pt_cmpR op_eq (pv 2) (pv 1) (nomark _))
        (pss_one (ps_ret (pv 3)))
        (pss_nil))))
    (pss_one (ps_ret (pe_lst (pa_nil)))), ?_⟩
    refine ⟨_, rfl, _, rfl, ⟨_, SqL.of hk⟩, ?_⟩
    refine for_g (gives_list K k ws) (fun i σ Hx => Hx = H ∧ (∀ c ∈ ks.take i, c.1 ≠ x) ∧ ∃ x2 x3, σ = [some (.ref k), some (.str x), x2, x3]) ⟨rfl, by simp, _, _, rfl⟩ (fun i σ Hx _ h => by rw [h.1]; exact SqL.of hk) ?_ ?_
    · rintro i y σ Hx hx ⟨rfl, hno, x2, x3, rfl⟩
      obtain ⟨c, qa, t, hc, rfl, hq, ht, hgt⟩ := dr.rows.getG hx
      refine ⟨qa, _, rfl, SqL.of hq, rfl, _, _, rfl, _, _, rfl, rfl, ?_⟩
      refine ⟨_, rfl, _, rfl, rfl, _, rfl, ?_⟩
      by_cases e : c.1 = x
      · rw [decide_eq_true (by rw [e])]
        refine iteT ?_
        have := mem_get dr.nd (List.mem_of_getElem? hc)
        rw [e, hg] at this
        refine ⟨_, rfl, q t hgt ?_⟩
        rw [ht, Option.some.inj this]
      · rw [decide_eq_false (fun z => e (by injection z))]
        refine iteF ?_
        refine ⟨rfl, fun c' hc' => ?_, _, _, rfl⟩
        rw [take_snoc hc] at hc'
        rcases List.mem_append.mp hc' with z | z
        · exact hno c' z
        · rw [List.mem_singleton.mp z]; exact e
    · rintro σ Hx ⟨rfl, hno, x2, x3, rfl⟩
      rw [List.take_of_length_le (by omega)] at hno
      exact absurd rfl (hno _ (get_mem hg))
--CUT--
def tellT (Q : VK) : VK := fun v H1 => (2 : Nat) ≤ sizeLine ∧ ∀ p, H1 p = none → Q (.ref p) (upd H1 p (.tup [.str (Str.ofString "told"), v]))
def refuT (K : PySem.W.Frag) (ea : Nat → Addr) (ce : Value) (Q : VK) : XK := fun c _ H1 => ∃ D j, c = .ref D ∧ KindF K ea D j ∧ PySem.W.exmOne K (.ref D) ce = some true ∧ ∀ p l H2, Same H1 H2 → H1 l = none → H2 l = some (.lst [.str (errName j)]) → H2 p = none → Q (.ref p) (upd H2 p (.tup [.str (Str.ofString "refused"), .ref l]))
def spTry1 (K : PySem.W.Frag) (ea : Nat → Addr) (ce : Value) (C : Addr) (m : Str) (sp : Sp) : Sp := fun vs H Q _ => ∃ b x dx fs, vs = [.ref b, x] ∧ H b = some (.ins C dx fs) ∧ fs.lookup m = none ∧ sp [.ref b, x] H (tellT Q) (refuT K ea ce Q)
def spTry2 (K : PySem.W.Frag) (ea : Nat → Addr) (ce : Value) (C : Addr) (m : Str) (sp : Sp) : Sp := fun vs H Q _ => ∃ b x y dx fs, vs = [.ref b, x, y] ∧ H b = some (.ins C dx fs) ∧ fs.lookup m = none ∧ sp [.ref b, x, y] H (tellT Q) (refuT K ea ce Q)
def spTry0 (K : PySem.W.Frag) (ea : Nat → Addr) (ce : Value) (C : Addr) (m : Str) (sp : Sp) : Sp := fun vs H Q _ => ∃ b dx fs, vs = [.ref b] ∧ H b = some (.ins C dx fs) ∧ fs.lookup m = none ∧ sp [.ref b] H (tellT Q) (refuT K ea ce Q)
def spTryF (K : PySem.W.Frag) (ea : Nat → Addr) (ce : Value) (sp : Sp) : Sp := fun vs H Q _ => ∃ x y, vs = [x, y] ∧ sp [x, y] H (tellT Q) (refuT K ea ce Q)
theorem sc_over : FnScope ["_law_book_here", "_law_place", "_law_e"] ["_law_book_here", "_law_place"] (defScope s_over) := ⟨rfl, rfl, rfl, by decide +kernel, rfl, by decide +kernel, by decide +kernel⟩
theorem ok_tover (D : DefAt K mg "_law_over" s_over) (T : Bn mg) {ea : Nat → Addr} {ce : Value} {sp : Sp} (V_CombError : mg "CombError" = some ce) (C_kind : HCallee P w K mg base "_law_kind" 1 ["_law_e"] (spKind K ea))
    (C_comb_over_line : Callee1 P w K mg base "comb_over_line" 6 ["book", "place"] sp) : Callee P w K mg base "_law_over" 7 ["_law_book_here", "_law_place"] (spTryF K ea ce sp) := by
  refine D.callee sc_over (fun _ _ _ _ _ _ us hl => match us, hl with | [_, _], _ => rfl) (fun vs H Q E h => ?_) (fun f cdv A outer s H vs Q E hr h => ?_)
  · obtain ⟨x, y, rfl, _⟩ := h
    rfl
  · obtain ⟨x, y, rfl, h⟩ := h
    have S := sc_over
    refine ⟨_, pss_one (ps_try (i := 2) rfl rfl S.nd rfl rfl rfl V_CombError (fun E pn => pss_one (ps_ret (pe_tup (pa_cons (pe_str) (pa_cons (pe_fn1 C_comb_over_line (hr.mono (by decide)) (by first | exact pass_try | exact pass1 | exact pass_E0) rfl (pa_cons (pv 0) (pa_cons (pv 1) pa_nil))) pa_nil)))))
      (fun x c ox pn vs hc hd h2 hx => pss_one (ps_ret (pe_tup (pa_cons (pe_str) (pa_cons (pe_hand C_kind hr hx hc hd h2 (by decide) rfl (pa_cons (pv 2) pa_nil)) pa_nil)))))), ?_⟩
    refine ⟨refuT K ea ce Q, ⟨_, rfl, _, rfl, h⟩, fun c H' x' hE hx' => ?_⟩
    obtain ⟨Dd, j, rfl, kf, he, q⟩ := hE
    refine ⟨he, _, rfl, rfl, Dd, j, rfl, kf, fun p H2 s2 n2 e2 => ⟨bigr rfl, fun p' np' => ?_⟩⟩
    exact q p' p H2 s2 n2 e2 np'
theorem ej_re {K : PySem.W.Frag} {ea : Nat → Addr} {ce : Value} {j : Nat} (e : EJ K ea ce j) {Q : VK} {H : Hp} (q : ∀ p l H2, Same H H2 → H l = none → H2 l = some (.lst [.str (errName j)]) → H2 p = none → Q (.ref p) (upd H2 p (.tup [.str (Str.ofString "refused"), .ref l]))) : refuT K ea ce Q (.ref (ea j)) none H := ⟨ea j, j, rfl, e.kf, e.ex, q⟩
/-- what a try tells: the number, or which refusal -/
def Ans (H : Hp) (fd : Addr) : Except Nat Int → Prop
  | .ok n => H fd = some (.tup [.str (Str.ofString "told"), .int n])
  | .error j => ∃ le, H fd = some (.tup [.str (Str.ofString "refused"), .ref le]) ∧ H le = some (.lst [.str (errName j)])
theorem Ans.same {H H' : Hp} {fd : Addr} {r : Except Nat Int} (a : Ans H fd r) (s : Same H H') : Ans H' fd r := by
  cases r with
  | ok n => exact s _ _ a
  | error j => obtain ⟨le, h1, h2⟩ := a; exact ⟨le, s _ _ h1, s _ _ h2⟩
theorem ej_ans {K : PySem.W.Frag} {ea : Nat → Addr} {ce : Value} {j : Nat} (e : EJ K ea ce j) {Q : VK} {H : Hp} (q : ∀ fd H2, Same H H2 → Ans H2 fd (.error j) → Q (.ref fd) H2) : refuT K ea ce Q (.ref (ea j)) none H :=
  ej_re e fun p le H2 s nle hle np => q p _ (s.put (s.free np)) ⟨le, upd_same, by rw [upd_ne (ne_of_none hle np)]; exact hle⟩
def csOf (r : Except Nat Combs) (cs : Combs) : Combs := match r with
  | .ok c => c
  | .error _ => cs
def pastOf (r : Except Nat Combs) (cs : Combs) (past : List Combs) : List Combs := match r with
  | .ok _ => past ++ [cs]
  | .error _ => past
def ansOf (r : Except Nat Combs) (past : List Combs) : Except Nat Int := match r with
  | .ok _ => .ok ((past.length : Int) + 1)
  | .error j => .error j
theorem deed_try {K : PySem.W.Frag} {ea : Nat → Addr} {ce : Value} {C b l : Addr} {G : Addr → Prop} {H : Hp} {cs : Combs} {past : List Combs} {Q : VK} {r : Except Nat Combs} (B : Bk C G H b l cs past) (ej : ∀ j, r = .error j → EJ K ea ce j)
    (q : ∀ Hx fd Gx, Mv b l G Gx H Hx → Bk C Gx Hx b l (csOf r cs) (pastOf r cs past) → Ans Hx fd (ansOf r past) → Q (.ref fd) Hx) : Deed ea C G H b l cs past (tellT Q) (refuT K ea ce Q) r := by
  cases r with
  | error j =>
    intro H' s
    exact ej_ans (ej j rfl) fun fd H2 s2 a => q H2 fd G (Mv.ofSame (s.trans s2)) (B.same (s.trans s2)) a
  | ok cs' =>
    intro H' G' m B'
    refine ⟨bigr rfl, fun p np => ?_⟩
    have s2 : Same H' (upd H' p (.tup [.str (Str.ofString "told"), .int ((past.length : Int) + 1)])) := Same.new np
    exact q _ p G' (m.trans (Mv.ofSame s2)) (B'.same s2) upd_same
def spLaw (K : PySem.W.Frag) : Sp := fun vs H Q _ => ∃ (a : Addr) (ns : List Int), vs = [.ref a] ∧ SqL K H a (ns.map V.int) ∧ ns.length ≤ 63 ∧ ∀ H', Q (.bl true) H'
--CUT--
def sp_less : Sp := fun vs H Q _ => ∃ (k pc : Addr) (ws : List V) (ks : Combs) (m : Nat), vs = [.ref k, .ref pc] ∧ H k = some (.lst ws) ∧ KindsL (fun _ => True) H ws ks ∧ ks.length ≤ 8 ∧ GC ks ∧ StuckD ks m ∧ H pc = some (.lst ((List.range 128).map fun s => V.int ((cntD ks m s : Nat) - 1))) ∧ ∀ H', Same H H' → Q (.bl true) H'
theorem at_cnt {C : Combs} {m : Nat} {t : Int} (h0 : 0 ≤ t) (h : t.toNat < 128) : atI ((List.range 128).map fun s => V.int ((cntD C m s : Nat) - 1)) t = some (.int ((cntD C m t.toNat : Nat) - 1)) := by
  refine atI_int h0 ?_
  rw [List.getElem?_map, List.getElem?_range h]
  rfl
theorem goes_one {cs : Combs} {ah : List Int} {g : Str × List Int} (h : g ∈ goesOf cs ah) : (∀ d ∈ g.2, 0 ≤ d ∧ d ≤ 6) ∧ g.2.length ≤ 1000 := by
  have : ∃ a b, g.2 = afterOf a b := by
    unfold goesOf at h
    split at h
    · rw [List.mem_singleton.mp h]; exact ⟨_, _, rfl⟩
    · obtain ⟨c, _, rfl⟩ := List.mem_map.mp h; exact ⟨_, _, rfl⟩
  obtain ⟨a, b, e⟩ := this
  rw [e]
  refine ⟨after_in, ?_⟩
  unfold afterOf
  rw [List.length_map]
  refine Nat.le_trans (List.length_filter_le _ _) ?_
  unfold canon
  rw [List.length_map]
  exact Nat.le_trans (List.length_filter_le _ _) (Nat.le_of_ble_eq_true rfl)
theorem sc_less : FnScope ["_law_kinds", "_law_counts", "_law_one", "_law_number_here", "_law_word_here", "_law_further"] ["_law_kinds", "_law_counts"] (defScope s_less) := ⟨rfl, rfl, rfl, by decide +kernel, rfl, by decide +kernel, by decide +kernel⟩
theorem ok_less (D : DefAt K mg "_law_less" s_less) (T : Bn mg) (C_whole : Callee P w K mg base "_law_whole" 1 ["_law_found"] sp_whole) (C_ahead : Callee P w K mg base "_law_ahead" 1 ["_law_number_here"] sp_ahead) (C_goes : Callee P w K mg base "_law_goes" 2 ["_law_kinds", "_law_ahead_here"] (sp_goes K)) (C_number : Callee P w K mg base "_law_number" 1 ["_law_ahead_here"] (sp_number K)) : Callee P w K mg base "_law_less" 3 ["_law_kinds", "_law_counts"] sp_less := by
  refine D.callee sc_less (fun _ _ _ _ _ _ us hl => match us, hl with | [_, _], _ => rfl) (fun vs H Q E h => ?_) (fun f cdv A outer s H vs Q E hr h => ?_)
  · obtain ⟨k, pc, ws, ks, m, rfl, _⟩ := h
    rfl
  · obtain ⟨k, pc, ws, ks, m, rfl, hk, kr, hk8, gc, sd, hpc, q⟩ := h
    have S := sc_less
    have hu := hu_of hr
    refine ⟨_, pss_cons (ps_if (pt_cmpR op_ne (pe_callB call_len_seq rfl T.n_len PySem.boot_len (pa_cons (pv 1) pa_nil)) (pe_int) (nomark _))
      (pss_one (ps_ret (pe_bl)))
      (pss_nil))
    (pss_cons (ps_for PassesOwn.never rfl (pi_list (pv 1)) (pg_name (i := 2) S.nd rfl (Or.inl rfl))
      (pss_one (ps_if (PW.pt (pw_or (pt_not (pt_val (pe_fn C_whole (hr.mono (by decide)) rfl (pa_cons (pv 2) pa_nil)))) (pw_or1 (pt_cmpR op_lt (pv 2) (pe_int) (nomark _)))))
        (pss_one (ps_ret (pe_bl)))
        (pss_nil))))
    (pss_cons (ps_for PassesOwn.never rfl (pi_range1 rfl T.n_range (pa_cons (pe_int) pa_nil)) (pg_name (i := 3) S.nd rfl (Or.inl rfl))
      (pss_one (ps_for PassesOwn.never rfl (pi_list (pe_fn C_goes (hr.mono (by decide)) rfl (pa_cons (pv 0) (pa_cons (pe_fn C_ahead (hr.mono (by decide)) rfl (pa_cons (pv 3) pa_nil)) pa_nil)))) (pg_tup rfl (pgs_cons (pg_name (i := 4) S.nd rfl (Or.inl rfl)) (pgs_cons (pg_name (i := 5) S.nd rfl (Or.inl rfl)) (pgs_nil))))
        (pss_one (ps_if (pt_cmpR op_ge (pe_ix ix_list (pv 1) (pe_fn C_number (hr.mono (by decide)) rfl (pa_cons (pv 5) pa_nil)) (fun _ _ => rfl)) (pe_ix ix_list (pv 1) (pv 3) (fun _ _ => rfl)) (nomark _))
          (pss_one (ps_ret (pe_bl)))
          (pss_nil))))))
    (pss_one (ps_ret (pe_bl))))), ?_⟩
    refine ⟨_, rfl, _, _, rfl, .inl (SqL.of hpc), rfl, _, rfl, ?_⟩
    refine iteF ?_
    refine ⟨_, rfl, _, rfl, ⟨_, SqL.of hpc⟩, ?_⟩
    refine for_g (gives_list K pc _) (fun i σ Hx => Hx = H ∧ ∃ x2, σ = [some (.ref k), some (.ref pc), x2, none, none, none]) ⟨rfl, _, rfl⟩ (fun i σ Hx _ h => by rw [h.1]; exact SqL.of hpc) ?_ ?_
    · rintro i x σ Hx hx ⟨rfl, x2, rfl⟩
      have hi : i < 128 := by
        have := (List.getElem?_eq_some_iff.mp hx).1
        rwa [List.length_map, List.length_range] at this
      rw [List.getElem?_map, List.getElem?_range hi] at hx
      cases hx
      refine ⟨_, rfl, _, rfl, _, rfl, ?_⟩
      refine iteF ?_
      refine ⟨_, rfl, _, _, rfl, rfl, _, rfl, ?_⟩
      have := cnt_pos (C := ks) (m := m) hi
      rw [decide_eq_false (show ¬ ((cntD ks m i : Nat) : Int) - 1 < 0 by omega)]
      refine iteF ?_
      exact ⟨rfl, _, rfl⟩
    rintro σ Hx ⟨eH, x2, rfl⟩
    rw [eH]
    refine ⟨128, rfl, by decide, by decide, ?_⟩
    refine for_g (gives_range 0 (128 : Int).toNat) (fun i σ Hx => Same H Hx ∧ ∃ x3 x4 x5, σ = [some (.ref k), some (.ref pc), x2, x3, x4, x5]) ⟨Same.refl _, _, _, _, rfl⟩ (fun _ _ _ _ _ => trivial) ?_ ?_
    · rintro i x σ Hy hx ⟨sy, x3, x4, x5, rfl⟩
      obtain ⟨hi, rfl⟩ := range_int hx
      have hi : i < 128 := hi
      rw [Int.zero_add]
      refine ⟨_, rfl, _, rfl, ((i : Nat) : Int), rfl, by omega, fun pa H2 s2 ha => ?_⟩
      refine ⟨k, pa, ws, ks, aheadOf (i : Int), rfl, s2 _ _ (sy _ _ hk), kr.same (sy.trans s2), by omega, gc, SqT.of ha, ahead_nodup _, ahead_in, fun pv H3 vv s3 npv hpv gv => ⟨_, rfl, ⟨_, SqL.of hpv⟩, ?_⟩⟩
      have s13 := sy.trans (s2.trans s3)
      refine for_g (gives_list K pv vv) (fun i' σ Hz => Same H3 Hz ∧ ∃ x4 x5, σ = [some (.ref k), some (.ref pc), x2, some (.int ((i : Nat) : Int)), x4, x5]) ⟨Same.refl _, _, _, rfl⟩ (fun i' σ Hz _ h => SqL.of (h.1 _ _ hpv)) ?_ ?_
      · rintro i' x σ Hz hx ⟨sz, x4, x5, rfl⟩
        obtain ⟨q1, t1, rfl, e2, e3, hlt⟩ := gv.nth hx
        have hm : (goesOf ks (aheadOf (i : Int))).getD i' ("", []) ∈ goesOf ks (aheadOf (i : Int)) := by rw [List.getD_eq_getElem?_getD, List.getElem?_eq_getElem hlt]; exact List.getElem_mem hlt
        obtain ⟨k1, k2, k3, k4⟩ := goes_key hi gc hm
        obtain ⟨g1, g2⟩ := goes_one hm
        refine ⟨q1, _, rfl, SqT.of (sz _ _ e2), rfl, _, _, rfl, _, _, rfl, rfl, ?_⟩
        have hc3 := s13.trans sz
        have hless : cntD ks m (worth ((goesOf ks (aheadOf (i : Int))).getD i' ("", [])).2).toNat < cntD ks m i := cnt_less gc sd hi (p := (((goesOf ks (aheadOf (i : Int))).getD i' ("", [])).1, worth ((goesOf ks (aheadOf (i : Int))).getD i' ("", [])).2)) (by rw [← goes_steps hi gc]; exact List.mem_map.mpr ⟨_, hm, rfl⟩)
        refine ⟨_, rfl, _, rfl, t1, _, rfl, SqT.of (sz _ _ e3), g1, g2, fun Hw sw => ⟨_, _, _, _, rfl, rfl, SqL.of (sw _ _ (hc3 _ _ hpc)), at_cnt k2 k1, _, rfl, _, rfl, _, _, _, _, rfl, rfl, SqL.of (sw _ _ (hc3 _ _ hpc)), at_cnt (by omega) (by rw [Int.toNat_natCast]; exact hi), _, _, rfl, rfl, _, rfl, ?_⟩⟩
        rw [Int.toNat_natCast, decide_eq_false (by omega)]
        refine iteF ?_
        exact ⟨sz.trans sw, _, _, rfl⟩
      · rintro σ Hz ⟨sz, x4, x5, rfl⟩
        exact ⟨s13.trans sz, _, _, _, rfl⟩
    · rintro σ Hy ⟨sy, x3, x4, x5, rfl⟩
      exact q Hy sy
--CUT--
theorem laid_at {nm : Nat → Str} {sp i : Nat} (hi : i < sp) : (nm i ≠ Str.ofString "" → (laid nm sp)[(laid nm i).length]? = some i) ∧ (nm i = Str.ofString "" → ∀ j, (laid nm sp)[(laid nm i).length]? = some j → i < j) := by
  have hsp : laid nm sp = laid nm i ++ ((List.range' i (sp - i)).filter fun j => decide (nm j ≠ Str.ofString "")) := by
    unfold laid
    rw [← List.filter_append]
    congr 1
    have := List.range'_append (s := 0) (m := i) (n := sp - i) (step := 1)
    rw [Nat.zero_add, Nat.one_mul, show i + (sp - i) = sp by omega] at this
    rw [List.range_eq_range', List.range_eq_range', this]
  rw [hsp, List.getElem?_append_right (Nat.le_refl _), Nat.sub_self, show sp - i = (sp - i - 1) + 1 by omega, List.range'_succ, List.filter_cons]
  constructor
  · intro h
    rw [if_pos (decide_eq_true h)]
    rfl
  · intro h j hj
    rw [if_neg (by simpa using h)] at hj
    have := (List.mem_filter.mp (List.mem_of_getElem? hj)).1
    rw [List.mem_range'] at this
    obtain ⟨k, _, rfl⟩ := this
    omega
theorem laid_snoc {nm : Nat → Str} {i : Nat} : (laid nm (i + 1)).length = (laid nm i).length + if nm i = Str.ofString "" then 0 else 1 := by
  unfold laid
  rw [List.range_succ, List.filter_append, List.length_append]
  congr 1
  by_cases h : nm i = Str.ofString ""
  · rw [if_pos h]; simp [h]
  · rw [if_neg h]; simp [h]
def sp_again : Sp := fun vs H Q _ => ∃ (k t : Addr) (ws : List V) (ks cz : Combs) (sp : Nat) (fs : Nat → Nat) (nm : Nat → Str) (ps pl : Addr) (wl : List V), vs = [.ref k, .ref t] ∧ H k = some (.lst ws) ∧ KindsL (fun _ => True) H ws ks ∧ ks.length ≤ 8 ∧ GC ks ∧ cz.Perm ks ∧ LineD cz sp fs nm ∧ (∀ c ∈ ks, PyData.strOk c.1 = true) ∧
  H t = some (.tup [.str (Str.ofString "filled"), .int (sp : Nat), .ref ps, .ref pl]) ∧ H ps = some (.lst ((List.range sp).map fun k => V.int (fs k : Nat))) ∧ H pl = some (.lst wl) ∧ LaysR H wl nm sp ∧ ∀ H', Same H H' → Q (.bl true) H'
theorem lays_atA {H : Hp} {ws : List V} {nm : Nat → Str} {n : Nat} (r : LaysR H ws nm n) {i : Nat} {x : V} (h : ws[i]? = some x) : ∃ j q, (laid nm n)[i]? = some j ∧ x = .ref q ∧ H q = some (.tup [.int (j : Int), .str (nm j)]) := by
  obtain ⟨j, e0, q, e1, e2⟩ := Paired.rev r h
  exact ⟨j, q, e0, e1, e2⟩
def goD (p : Str × List Int) : PyData := .tuple [.str p.1, .int (worth p.2)]
theorem goes_vd {K : PySem.W.Frag} {H : Hp} {R : V → Prop} {l : List (Str × List Int)} : ∀ {r : List Nat} {ys : List V}, (∀ i ∈ r, i < l.length) → Paired (fun (i : Nat) y => R y ∧ ∃ q, y = .ref q ∧ H q = some (.tup [.str (l.getD i ("", [])).1, .int (worth (l.getD i ("", [])).2)])) r ys → VDs K H ys (r.map fun i => goD (l.getD i ("", []))) := by
  intro r ys hr z
  induction z with
  | nil => exact .nil
  | cons h _ ih =>
    obtain ⟨_, q, rfl, e⟩ := h
    exact .cons (.tup (SqT.of e) (.cons (.str _) (.cons (.int _) .nil))) (ih fun i hi => hr i (List.mem_cons_of_mem _ hi))
theorem goes_lay {l : List (Str × List Int)} : (∀ p ∈ l, PyData.strOk p.1 = true) → PyData.canLayAll0 (l.map goD) = true := by
  induction l with
  | nil => exact fun _ => rfl
  | cons p l ih =>
    intro h
    have i := ih fun k hk => h k (List.mem_cons_of_mem _ hk)
    have := h p List.mem_cons_self
    rw [List.map_cons, PyData.canLayAll0, i]
    simp [goD, PyData.canLay0, PyData.canLayAll0, this]
theorem goes_any {l : List (Str × List Int)} {p : Str × List Int} (h : p ∈ l) : (l.map goD).any (fun e => PyData.eqv e (.tuple [.str p.1, .int (worth p.2)])) = true := by
  rw [List.any_eq_true]
  refine ⟨goD p, List.mem_map.mpr ⟨_, h, rfl⟩, ?_⟩
  unfold goD
  simp [PyData.eqv, PyData.eqvAll]
theorem lay_two (a : Int) {x : Str} (h : PyData.strOk x = true) : PyData.canLay0 (.tuple [.str x, .int a]) = true ∧ PyData.depth (.tuple [.str x, .int a]) ≤ 50 := by
  simp [h, PyData.canLay0, PyData.canLayAll0, PyData.depth, PyData.depthAll]
theorem goes_name {ks : Combs} (hok : ∀ c ∈ ks, PyData.strOk c.1 = true) {ah : List Int} {p : Str × List Int} (h : p ∈ goesOf ks ah) : PyData.strOk p.1 = true := by
  unfold goesOf at h
  split at h
  · rw [List.mem_singleton.mp h]
    exact (by decide +kernel : PyData.strOk (Str.ofString "") = true)
  · obtain ⟨c, hc, rfl⟩ := List.mem_map.mp h
    exact hok c (List.mem_filter.mp hc).1
theorem map_getD {α β : Type} (l : List α) (d : α) (f : α → β) : (List.range l.length).map (fun i => f (l.getD i d)) = l.map f := by
  refine List.ext_getElem? fun i => ?_
  rw [List.getElem?_map, List.getElem?_map]
  by_cases h : i < l.length
  · rw [List.getElem?_range h, List.getElem?_eq_getElem h]
    simp [List.getD_eq_getElem?_getD, List.getElem?_eq_getElem h]
  · rw [List.getElem?_eq_none (by rw [List.length_range]; omega), List.getElem?_eq_none (by omega)]
    rfl
theorem goes_len8 {ks : Combs} (h8 : ks.length ≤ 8) (s : Nat) (hs : s < 128) (g : GC ks) : (goesOf ks (aheadOf (s : Int))).length ≤ 8 := by
  rw [← List.length_map (f := fun p : Str × List Int => (p.1, worth p.2)), goes_steps hs g]
  exact stp_len h8 s
theorem sc_again : FnScope ["_law_kinds", "_law_told", "_law_used", "_law_k", "_law_word_here", "_law_further", "_law_goes_here"] ["_law_kinds", "_law_told"] (defScope s_again) := ⟨rfl, rfl, rfl, by decide +kernel, rfl, by decide +kernel, by decide +kernel⟩
theorem ok_again (D : DefAt K mg "_law_again" s_again) (T : Bn mg) (C_ahead : Callee P w K mg base "_law_ahead" 1 ["_law_number_here"] sp_ahead) (C_goes : Callee P w K mg base "_law_goes" 2 ["_law_kinds", "_law_ahead_here"] (sp_goes K)) (C_number : Callee P w K mg base "_law_number" 1 ["_law_ahead_here"] (sp_number K)) : Callee P w K mg base "_law_again" 3 ["_law_kinds", "_law_told"] sp_again := by
  refine D.callee sc_again (fun _ _ _ _ _ _ us hl => match us, hl with | [_, _], _ => rfl) (fun vs H Q E h => ?_) (fun f cdv A outer s H vs Q E hr h => ?_)
  · obtain ⟨k, t, ws, ks, cz, sp, fs, nm, ps, pl, wl, rfl, _⟩ := h
    rfl
  · obtain ⟨k, t, ws, ks, cz, sp, fs, nm, ps, pl, wl, rfl, hk, kr, hk8, gc, pz, ld, hok, ht, hps, hpl, la, q⟩ := h
    have S := sc_again
    have hu := hu_of hr
    obtain ⟨h1, h128, hround⟩ := ld.span
    have hwl : wl.length = (laid nm sp).length := (Paired.length la).symm
    refine ⟨_, pss_cons (ps_set (i := 2) S.nd rfl (Or.inl rfl) (pe_int))
    (pss_cons (ps_for PassesOwn.never rfl (pi_range1 rfl T.n_range (pa_cons (pe_ix ix_tup (pv 1) (pe_int) (fun _ _ => rfl)) pa_nil)) (pg_name (i := 3) S.nd rfl (Or.inl rfl))
      (pss_cons (ps_set (i := 4) S.nd rfl (Or.inl rfl) (pe_str))
      (pss_cut (ps_if (PW.pt (pw_and (pt_cmpR op_lt (pv 2) (pe_callB call_len_seq rfl T.n_len PySem.boot_len (pa_cons (pe_ix ix_tup (pv 1) (pe_int) (fun _ _ => rfl)) pa_nil)) (nomark _)) (pw_and1 (pt_cmpR op_eq (pe_ix ix_tup (pe_ix ix_list (pe_ix ix_tup (pv 1) (pe_int) (fun _ _ => rfl)) (pv 2) (fun _ _ => rfl)) (pe_int) (fun _ _ => rfl)) (pv 3) (nomark _)))))
        (pss_cons (ps_set (i := 4) S.nd rfl (Or.inl rfl) (pe_ix ix_tup (pe_ix ix_list (pe_ix ix_tup (pv 1) (pe_int) (fun _ _ => rfl)) (pv 2) (fun _ _ => rfl)) (pe_int) (fun _ _ => rfl)))
        (pss_one (ps_set (i := 2) S.nd rfl (Or.inl rfl) (pe_op op_add (pv 2) (pe_int)))))
        (pss_nil))
      (pss_cons (ps_set (i := 5) S.nd rfl (Or.inl rfl) (pe_ix ix_list (pe_ix ix_tup (pv 1) (pe_int) (fun _ _ => rfl)) (pe_op op_mod (pe_op op_add (pv 3) (pe_int)) (pe_ix ix_tup (pv 1) (pe_int) (fun _ _ => rfl))) (fun _ _ => rfl)))
      (pss_cons (ps_if (PW.pt (pw_or (pt_cmpR op_lt (pe_ix ix_list (pe_ix ix_tup (pv 1) (pe_int) (fun _ _ => rfl)) (pv 3) (fun _ _ => rfl)) (pe_int) (nomark _)) (pw_or1 (pt_cmpR op_gt (pe_ix ix_list (pe_ix ix_tup (pv 1) (pe_int) (fun _ _ => rfl)) (pv 3) (fun _ _ => rfl)) (pe_int) (nomark _)))))
        (pss_one (ps_ret (pe_bl)))
        (pss_nil))
      (pss_cons (ps_set (i := 6) S.nd rfl (Or.inl rfl) (pe_fn C_goes (hr.mono (by decide)) rfl (pa_cons (pv 0) (pa_cons (pe_fn C_ahead (hr.mono (by decide)) rfl (pa_cons (pe_ix ix_list (pe_ix ix_tup (pv 1) (pe_int) (fun _ _ => rfl)) (pv 3) (fun _ _ => rfl)) pa_nil)) pa_nil))))
      (pss_one (ps_if (pt_cmpR (op_notInD hr.units) (pe_tup (pa_cons (pv 4) (pa_cons (pv 5) pa_nil))) (pe_comp (own := ["_law_one"]) (caps := []) rfl ⟨rfl, rfl, rfl, rfl, trivial⟩ (pi_list (pv 6)) (fun _ _ _ _ _ _ => pg_name (i := 0) (nd_comp (by decide +kernel)) rfl (Or.inl rfl)) (fun _ _ _ _ _ _ => pts_nil) (fun _ _ _ _ _ _ => pe_tup (pa_cons (pe_ix (ix_tup' K rfl) (pv 0) (pe_int) (fun _ _ => rfl)) (pa_cons (pe_fn C_number (hr.mono (by decide)) rfl (pa_cons (pe_ix (ix_tup' K rfl) (pv 0) (pe_int) (fun _ _ => rfl)) pa_nil)) pa_nil)))) (by with_unfolding_all rfl))
        (pss_one (ps_ret (pe_bl)))
        (pss_nil)))))))))
    (pss_one (ps_ret (pe_cmpR op_eq (pv 2) (pe_callB call_len_seq rfl T.n_len PySem.boot_len (pa_cons (pe_ix ix_tup (pv 1) (pe_int) (fun _ _ => rfl)) pa_nil)) (nomark _))))), ?_⟩
    refine ⟨_, rfl, _, _, _, _, rfl, rfl, SqT.of ht, at4.2.1, _, rfl, by omega, by omega, ?_⟩
    refine for_g (gives_range 0 ((sp : Nat) : Int).toNat) (fun i σ Hx => Same H Hx ∧ ∃ x3 x4 x5 x6, σ = [some (.ref k), some (.ref t), some (.int ((laid nm i).length : Nat)), x3, x4, x5, x6]) ⟨Same.refl _, _, _, _, _, rfl⟩ (fun _ _ _ _ _ => trivial) ?_ ?_
    · rintro i x σ Hy hx ⟨sy, x3, x4, x5, x6, rfl⟩
      obtain ⟨hi, rfl⟩ := range_int hx
      have hi : i < sp := by simpa using hi
      rw [Int.zero_add]
      refine ⟨fun σ Hx => Hx = Hy ∧ σ = [some (.ref k), some (.ref t), some (.int ((laid nm (i + 1)).length : Nat)), some (.int (i : Nat)), some (.str (nm i)), x5, x6], ?_, ?_⟩
      · refine ⟨_, rfl, _, rfl, _, _, _, _, rfl, rfl, SqT.of (sy _ _ ht), at4.2.2.2, _, _, rfl, .inl (SqL.of (sy _ _ hpl)), _, _, rfl, rfl, _, rfl, ?_⟩
        by_cases hu' : (laid nm i).length < wl.length
        · rw [decide_eq_true (by omega)]
          refine iteT ?_
          obtain ⟨j, qa, ej, ev, hqa⟩ := lays_atA la (List.getElem?_eq_getElem hu')
          have hat : atI wl ((laid nm i).length : Nat) = some (.ref qa) := atI_nat (by rw [List.getElem?_eq_getElem hu', ev])
          have hg4 : ∀ {R : Prop}, R → R := id
          refine ⟨_, rfl, _, _, _, _, rfl, rfl, SqT.of (sy _ _ ht), at4.2.2.2, _, rfl, _, _, _, _, rfl, rfl, SqL.of (sy _ _ hpl), hat, _, _, _, _, rfl, rfl, SqT.of (sy _ _ hqa), at0, _, rfl, rfl, _, rfl, ?_⟩
          by_cases hn : nm i = Str.ofString ""
          · have := (laid_at hi).2 hn j ej
            rw [decide_eq_false (fun z => by injection z with z; omega)]
            refine iteF ?_
            exact ⟨rfl, by rw [laid_snoc, if_pos hn, hn]; rfl⟩
          · rw [(laid_at hi).1 hn] at ej
            cases ej
            rw [decide_eq_true rfl]
            refine iteT ?_
            refine ⟨_, rfl, _, _, _, _, rfl, rfl, SqT.of (sy _ _ ht), at4.2.2.2, _, rfl, _, _, _, _, rfl, rfl, SqL.of (sy _ _ hpl), hat, _, _, _, _, rfl, rfl, SqT.of (sy _ _ hqa), at1, _, rfl, _, _, rfl, rfl, rfl, ?_⟩
            rw [laid_snoc, if_neg hn]
            rfl
        · rw [decide_eq_false (by omega)]
          refine iteF ?_
          have hn : nm i = Str.ofString "" := Decidable.byContradiction fun hn => by
            have := (List.getElem?_eq_some_iff.mp ((laid_at hi).1 hn)).1
            omega
          exact ⟨rfl, by rw [laid_snoc, if_pos hn, hn]; rfl⟩
      rintro σ Hx ⟨rfl, rfl⟩
      obtain ⟨hf, hst⟩ := ld.step (fun c hc => gc c (pz.mem_iff.mp hc)) i
      have hst : (nm i, (fs (i + 1) : Int)) ∈ stp ks (fs i) := (steps_perm pz _).mem_iff.mp hst
      have psp : (0 : Int) < ((sp : Nat) : Int) := by omega
      have hmod : atI ((List.range sp).map fun k => V.int (fs k : Nat)) ((((i : Nat) : Int) + 1) % ((sp : Nat) : Int)) = some (.int (fs (i + 1) : Nat)) := by
        by_cases h : i + 1 < sp
        · rw [Int.emod_eq_of_lt (by omega) (by omega)]
          exact atI_nat (j := i + 1) (by rw [List.getElem?_map, List.getElem?_range h]; rfl)
        · have : i + 1 = sp := by omega
          rw [show ((i : Nat) : Int) + 1 = ((sp : Nat) : Int) by omega, Int.emod_self, this, hround]
          exact atI_nat (j := 0) (by rw [List.getElem?_map, List.getElem?_range h1]; rfl)
      have hati : atI ((List.range sp).map fun k => V.int (fs k : Nat)) ((i : Nat) : Int) = some (.int (fs i : Nat)) := atI_nat (by rw [List.getElem?_map, List.getElem?_range hi]; rfl)
      refine ⟨_, rfl, _, _, _, _, rfl, rfl, SqT.of (sy _ _ ht), at4.2.2.1, _, rfl, _, _, rfl, rfl, _, rfl, _, _, _, _, rfl, rfl, SqT.of (sy _ _ ht), at4.2.1, _, _, rfl, rfl, psp, _, _, _, _, rfl, rfl, SqL.of (sy _ _ hps), hmod, ?_⟩
      refine ⟨_, rfl, _, _, _, _, rfl, rfl, SqT.of (sy _ _ ht), at4.2.2.1, _, rfl, _, _, _, _, rfl, rfl, SqL.of (sy _ _ hps), hati, _, _, rfl, rfl, _, rfl, ?_⟩
      rw [decide_eq_false (by omega)]
      refine iteF ?_
      refine ⟨_, rfl, _, _, _, _, rfl, rfl, SqT.of (sy _ _ ht), at4.2.2.1, _, rfl, _, _, _, _, rfl, rfl, SqL.of (sy _ _ hps), hati, _, _, rfl, rfl, _, rfl, ?_⟩
      rw [decide_eq_false (by omega)]
      refine iteF ?_
      refine ⟨_, rfl, _, rfl, _, _, _, _, rfl, rfl, SqT.of (sy _ _ ht), at4.2.2.1, _, rfl, _, _, _, _, rfl, rfl, SqL.of (sy _ _ hps), hati, ((fs i : Nat) : Int), rfl, by omega, fun pa H2 s2 ha => ?_⟩
      refine ⟨k, pa, ws, ks, aheadOf (fs i : Int), rfl, s2 _ _ (sy _ _ hk), kr.same (sy.trans s2), by omega, gc, SqT.of ha, ahead_nodup _, ahead_in, fun pv H3 vv s3 npv hpv gv => ?_⟩
      have s13 := sy.trans (s2.trans s3)
      refine ⟨_, rfl, _, rfl, bigr rfl, fun pt npt => ?_⟩
      have s4 : Same H3 (upd H3 pt (.tup [.str (nm i), .int (fs (i + 1) : Nat)])) := Same.new npt
      have hpt : upd H3 pt (.tup [.str (nm i), .int (fs (i + 1) : Nat)]) pt = some (.tup [.str (nm i), .int (fs (i + 1) : Nat)]) := upd_same
      refine ⟨_, rfl, _, rfl, ⟨vv, SqL.of (s4 _ _ hpv)⟩, fun D1 hD1 => ?_⟩
      have hgl := gv.length
      have gvx : ∀ (i' : Nat) x, vv[i']? = some x → ∃ q1 t1, x = .ref q1 ∧ H3 q1 = some (.tup [.str ((goesOf ks (aheadOf (fs i : Int))).getD i' ("", [])).1, .ref t1]) ∧ H3 t1 = some (.tup (((goesOf ks (aheadOf (fs i : Int))).getD i' ("", [])).2.map V.int)) ∧ (goesOf ks (aheadOf (fs i : Int))).getD i' ("", []) ∈ goesOf ks (aheadOf (fs i : Int)) := fun i' x hx => by
        obtain ⟨q1, t1, e1, e2, e3, hlt⟩ := gv.nth hx
        exact ⟨q1, t1, e1, e2, e3, by rw [List.getD_eq_getElem?_getD, List.getElem?_eq_getElem hlt]; exact List.getElem_mem hlt⟩
      have hg8 := goes_len8 hk8 (fs i) hf gc
      refine comp_x (capv := []) (by rfl) (gives_list K pv vv) (big (by omega)) hD1 (fun H' s' => SqL.of (s' _ _ (s4 _ _ hpv))) (fun _ => true) (fun H i' v => ∃ qa, v = .ref qa ∧ H qa = some (.tup [.str ((goesOf ks (aheadOf (fs i : Int))).getD i' ("", [])).1, .int (worth ((goesOf ks (aheadOf (fs i : Int))).getD i' ("", [])).2)])) ?_ ?_ (fun _ _ _ H' R s' h => h H' (Same.refl _)) ?_ ?_
      · rintro H2 H3 i v s' ⟨qa, e1, e2⟩
        exact ⟨qa, e1, s' _ _ e2⟩
      · rintro H2 i v l' l'' hv hH ⟨qa, e1, e2⟩
        exact ⟨qa, e1, by rw [upd_ne (fun z => by rw [z, hH] at e2; cases e2)]; exact e2⟩
      · intro i' x hx _ H' R s' hDn h
        obtain ⟨q1, t1, rfl, e2, e3, hm⟩ := gvx i' x hx
        obtain ⟨g1, g2⟩ := goes_one hm
        have sx := s4.trans s'
        refine ⟨_, rfl, _, _, _, _, rfl, rfl, SqT.of (sx _ _ e2), at0, _, rfl, _, _, _, _, rfl, rfl, SqT.of (sx _ _ e2), at1, t1, _, rfl, SqT.of (sx _ _ e3), g1, g2, fun Hw sw => ⟨bigr rfl, fun p2 np2 => ?_⟩⟩
        have hDw : Hw D1 ≠ none := fun z => by
          cases e : H' D1 with
          | none => exact hDn e
          | some o => rw [sw _ _ e] at z; cases z
        exact h _ _ (sw.trans (Same.new np2)) (fun z => hDw (by injection z with z; rw [← z]; exact np2)) ⟨p2, rfl, upd_same⟩
      · intro H5 ys s5 e5 pr
        rw [hgl, List.filter_eq_self.mpr (fun _ _ => rfl)] at pr
        have hvd := goes_vd (K := K) (fun i hi => List.mem_range.mp hi) pr
        rw [map_getD (goesOf ks (aheadOf (fs i : Int))) ("", []) goD] at hvd
        rw [← goes_steps hf gc] at hst
        obtain ⟨pp, hpp, epp⟩ := List.mem_map.mp hst
        have e1 : pp.1 = nm i := congrArg Prod.fst epp
        have e2 : worth pp.2 = ((fs (i + 1) : Nat) : Int) := congrArg Prod.snd epp
        have hany := goes_any hpp
        have hn := goes_name hok hpp
        rw [e1] at hn
        rw [e1, e2] at hany
        have hone := lay_two ((fs (i + 1) : Nat) : Int) hn
        refine ⟨_, _, .tup (SqT.of (s5 _ _ hpt)) (.cons (.str _) (.cons (.int _) .nil)), .lst (SqL.of e5) hvd, hone.1, goes_lay (fun p hp => goes_name hok hp), hone.2, _, rfl, ?_⟩
        rw [if_pos rfl, hany]
        refine iteF ?_
        exact ⟨s13.trans (s4.trans s5), _, _, _, _, rfl⟩
    · rintro σ Hy ⟨sy, x3, x4, x5, x6, rfl⟩
      refine ⟨_, rfl, _, rfl, _, _, _, _, rfl, rfl, SqT.of (sy _ _ ht), at4.2.2.2, _, _, rfl, .inl (SqL.of (sy _ _ hpl)), rfl, ?_⟩
      rw [range_len, Int.toNat_natCast, hwl, decide_eq_true rfl]
      exact q Hy sy
--CUT--
theorem tkOf_srt {ks : Combs} (nd : (ks.map (·.1)).Nodup) (x : Str) : tkOf (srt ks) x = tkOf ks x := by
  unfold tkOf
  rw [tk_perm (srt_perm nd) (((srt_perm nd).map _).nodup_iff.mpr nd)]
theorem name_ok {x : Str} (h : isName x = true) : PyData.strOk x = true := by
  unfold isName at h
  rw [Bool.and_eq_true] at h
  unfold PyData.strOk
  rw [Array.all_eq_true_iff_forall_mem]
  intro c hc
  have := List.all_eq_true.mp h.2 c (by simpa using hc)
  unfold small at this
  simp at this ⊢
  omega
def layD (nm : Nat → Str) (j : Nat) : PyData := .tuple [.int (j : Nat), .str (nm j)]
theorem lays_vd {K : PySem.W.Frag} {H : Hp} {ws : List V} {nm : Nat → Str} {n : Nat} (r : LaysR H ws nm n) : VDs K H ws ((laid nm n).map (layD nm)) := by
  have : ∀ {l : List Nat} {ws : List V}, Paired (fun (j : Nat) (v : V) => ∃ q, v = .ref q ∧ H q = some (.tup [.int (j : Int), .str (nm j)])) l ws → VDs K H ws (l.map (layD nm)) := by
    intro l ws z
    induction z with
    | nil => exact .nil
    | cons h _ ih =>
      obtain ⟨q, rfl, e⟩ := h
      exact .cons (.tup (SqT.of e) (.cons (.int _) (.cons (.str _) .nil))) ih
  exact this r
theorem lays_lay {nm : Nat → Str} : ∀ {l : List Nat}, (∀ j ∈ l, PyData.strOk (nm j) = true) → PyData.canLayAll0 (l.map (layD nm)) = true
  | [], _ => rfl
  | j :: l, h => by
    have i := lays_lay fun k hk => h k (List.mem_cons_of_mem _ hk)
    have := h j List.mem_cons_self
    rw [List.map_cons, PyData.canLayAll0, i]
    simp [layD, PyData.canLay0, PyData.canLayAll0, this]
theorem lay_one (a : Int) {x : Str} (h : PyData.strOk x = true) : PyData.canLay0 (.tuple [.int a, .str x]) = true ∧ PyData.depth (.tuple [.int a, .str x]) ≤ 50 := by
  simp [h, PyData.canLay0, PyData.canLayAll0, PyData.depth, PyData.depthAll]
theorem lays_any {nm : Nat → Str} {n : Nat} {x : Int} (h0 : 0 ≤ x) (h1 : x.toNat < n) (h2 : nm x.toNat ≠ Str.ofString "") : ((laid nm n).map (layD nm)).any (fun e => PyData.eqv e (.tuple [.int x, .str (nm x.toNat)])) = true := by
  rw [List.any_eq_true]
  refine ⟨layD nm x.toNat, List.mem_map.mpr ⟨_, List.mem_filter.mpr ⟨List.mem_range.mpr h1, decide_eq_true h2⟩, rfl⟩, ?_⟩
  unfold layD
  rw [show ((x.toNat : Nat) : Int) = x by omega]
  simp [PyData.eqv, PyData.eqvAll]
theorem shaped_two {a : Int} {x : Str} (h : PyData.strOk x = true) : SeqAt.shaped (.tuple [.int a, .str x]) = true := by simp [h, SeqAt.shaped, PyData.canLay0, PyData.canLayAll0, PyData.depth, PyData.depthAll]
theorem eqv_two (a : Int) (x : Str) : PyData.eqv (.tuple [.int a, .str x]) (.tuple [.int a, .str x]) = true := by simp [PyData.eqv, PyData.eqvAll]
def sp_far (C : Addr) : Sp := fun vs H Q _ => ∃ (b l k t : Addr) (x : Int) (G : Addr → Prop) (past : List Combs) (ws : List V) (ks : Combs) (sp : Nat) (fs : Nat → Nat) (nm : Nat → Str) (ps pl : Addr) (wl : List V), vs = [.ref b, .ref k, .ref t, .int x] ∧ Bk C G H b l ks past ∧ H k = some (.lst ws) ∧ Drawn (fun _ => True) H ws ks ∧ LineD (srt ks) sp fs nm ∧
  H t = some (.tup [.str (Str.ofString "filled"), .int (sp : Nat), .ref ps, .ref pl]) ∧ H pl = some (.lst wl) ∧ LaysR H wl nm sp ∧ -1000000000000000000 + 8 ≤ x ∧ x ≤ 1000000000000000000 - 8 ∧ ∀ H', Same H H' → Q (.bl true) H'
theorem sc_far : FnScope ["_law_book_here", "_law_kinds", "_law_told", "_law_place", "_law_found", "_law_spot", "_law_word_here", "_law_t", "_law_beside"] ["_law_book_here", "_law_kinds", "_law_told", "_law_place"] (defScope s_far) := ⟨rfl, rfl, rfl, by decide +kernel, rfl, by decide +kernel, by decide +kernel⟩
theorem ok_far {ea : Nat → Addr} {ce : Value} {C : Addr} (D : DefAt K mg "_law_far" s_far) (T : Bn mg) (C_over : Callee P w K mg base "_law_over" 7 ["_law_book_here", "_law_place"] (spTryF K ea ce (sp_cline ea C))) (C_laying : Callee P w K mg base "_law_laying" 2 ["_law_one"] sp_laying) (C_teeth : Callee P w K mg base "_law_teeth" 1 ["_law_kinds", "_law_word_here"] sp_lteeth) : Callee P w K mg base "_law_far" 8 ["_law_book_here", "_law_kinds", "_law_told", "_law_place"] (sp_far C) := by
  refine D.callee sc_far (fun _ _ _ _ _ _ us hl => match us, hl with | [_, _, _, _], _ => rfl) (fun vs H Q E h => ?_) (fun f cdv A outer s H vs Q E hr h => ?_)
  · obtain ⟨b, l, k, t, x, G, past, ws, ks, sp, fs, nm, ps, pl, wl, rfl, _⟩ := h
    rfl
  · obtain ⟨b, l, k, t, x, G, past, ws, ks, sp, fs, nm, ps, pl, wl, rfl, B, hk, dr, ld, ht, hpl, la, x0, x1, q⟩ := h
    have S := sc_far
    have hu := hu_of hr
    have pm := srt_perm dr.nd
    obtain ⟨gcs, hs8⟩ := srt_gc B
    obtain ⟨nds, nes⟩ := bk_ne B
    obtain ⟨h1, h128, _⟩ := ld.span
    have psp : (0 : Int) < ((sp : Nat) : Int) := by omega
    have hstr : ∀ j, nm j ≠ Str.ofString "" → PyData.strOk (nm j) = true := fun j hj => by
      rcases ld.go gcs j with ⟨_, e1, _⟩ | ⟨_, c, hc, e1, _⟩
      · exact absurd e1 hj
      · rw [e1]; exact name_ok (dr.good c (pm.mem_iff.mp hc)).1
    refine ⟨_, pss_cons (ps_set (i := 4) S.nd rfl (Or.inl rfl) (pe_fn C_over (hr.mono (by decide)) rfl (pa_cons (pv 0) (pa_cons (pv 3) pa_nil))))
    (pss_cons (ps_if (PW.pt (pw_or (pt_cmpR op_ne (pe_ix ix_tup (pv 4) (pe_int) (fun _ _ => rfl)) (pe_str) (nomark _)) (pw_or1 (pt_not (pt_val (pe_fn C_laying (hr.mono (by decide)) rfl (pa_cons (pe_ix ix_tup (pv 4) (pe_int) (fun _ _ => rfl)) pa_nil)))))))
      (pss_one (ps_ret (pe_bl)))
      (pss_nil))
    (pss_cons (ps_asg (pe_ix ix_tup (pv 4) (pe_int) (fun _ _ => rfl)) (pg_tup rfl (pgs_cons (pg_name (i := 5) S.nd rfl (Or.inl rfl)) (pgs_cons (pg_name (i := 6) S.nd rfl (Or.inl rfl)) (pgs_nil)))))
    (pss_cons (ps_if (PW.pt (pw_or (pt_cmpR (op_notInD hr.units) (pe_tup (pa_cons (pe_op op_mod (pv 5) (pe_ix ix_tup (pv 2) (pe_int) (fun _ _ => rfl))) (pa_cons (pv 6) pa_nil))) (pe_ix ix_tup (pv 2) (pe_int) (fun _ _ => rfl)) (by with_unfolding_all rfl)) (pw_or1 (pt_cmpR op_notIn_seq (pe_op op_sub (pv 3) (pv 5)) (pe_fn C_teeth (hr.mono (by decide)) rfl (pa_cons (pv 1) (pa_cons (pv 6) pa_nil))) (by with_unfolding_all rfl)))))
      (pss_one (ps_ret (pe_bl)))
      (pss_nil))
    (pss_cons (ps_for PassesOwn.never rfl (pi_list (pe_fn C_teeth (hr.mono (by decide)) rfl (pa_cons (pv 1) (pa_cons (pv 6) pa_nil)))) (pg_name (i := 7) S.nd rfl (Or.inl rfl))
      (pss_cons (ps_set (i := 8) S.nd rfl (Or.inl rfl) (pe_fn C_over (hr.mono (by decide)) rfl (pa_cons (pv 0) (pa_cons (pe_op op_add (pv 5) (pv 7)) pa_nil))))
      (pss_one (ps_if (PW.pt (pw_or (pt_cmpR op_ne (pe_ix ix_tup (pv 8) (pe_int) (fun _ _ => rfl)) (pe_str) (nomark _)) (pw_or (pt_not (pt_val (pe_fn C_laying (hr.mono (by decide)) rfl (pa_cons (pe_ix ix_tup (pv 8) (pe_int) (fun _ _ => rfl)) pa_nil)))) (pw_or1 (pt_cmpR (op_neD hr.units) (pe_ix ix_tup (pv 8) (pe_int) (fun _ _ => rfl)) (pe_ix ix_tup (pv 4) (pe_int) (fun _ _ => rfl)) (nomark _))))))
        (pss_one (ps_ret (pe_bl)))
        (pss_nil)))))
    (pss_one (ps_ret (pe_bl))))))), ?_⟩
    refine ⟨_, rfl, _, rfl, .ref b, .int x, rfl, b, l, G, ks, past, x, rfl, B, ?_⟩
    rw [if_pos ⟨by omega, by omega⟩]
    refine ⟨fun m Hk sk sd => (ld.not sd).elim, fun p sp' fs' nm' t0 Hk sk ld' ol hp => ?_⟩
    obtain ⟨rfl, rfl, rfl⟩ := ld.unique ld'
    refine ⟨bigr rfl, fun fd nfd => ?_⟩
    have s3 : Same Hk (upd Hk fd (.tup [.str (Str.ofString "told"), .ref p])) := Same.new nfd
    have hfd : upd Hk fd (.tup [.str (Str.ofString "told"), .ref p]) fd = some (.tup [.str (Str.ofString "told"), .ref p]) := upd_same
    generalize upd Hk fd (.tup [.str (Str.ofString "told"), .ref p]) = H3 at s3 hfd ⊢
    have sk3 := sk.trans s3
    have hp3 := s3 _ _ hp
    obtain ⟨ht8, ht0⟩ := ol
    have hne := tk_ne nes ht0
    have hx0 := Int.emod_nonneg (x - (t0 : Int)) (show ((sp : Nat) : Int) ≠ 0 by omega)
    have hx1 := Int.emod_lt_of_pos (x - (t0 : Int)) psp
    have hone := lay_one ((x - (t0 : Int)) % (sp : Int)) (hstr _ hne)
    refine ⟨_, rfl, _, _, _, _, rfl, rfl, SqT.of hfd, at0, rfl, _, rfl, ?_⟩
    refine iteF ?_
    refine ⟨_, rfl, _, _, _, _, rfl, rfl, SqT.of hfd, at1, p, _, _, rfl, hp3, _, rfl, ?_⟩
    refine iteF ?_
    refine ⟨_, rfl, _, _, _, _, rfl, rfl, SqT.of hfd, at1, ?_⟩
    refine ⟨p, _, rfl, SqT.of hp3, rfl, _, _, rfl, _, _, rfl, rfl, ?_⟩
    refine ⟨_, rfl, _, rfl, _, _, _, _, rfl, rfl, SqT.of (sk3 _ _ ht), at4.2.1, _, _, rfl, rfl, psp, _, rfl, bigr rfl, fun pt npt => ?_⟩
    have s9 : Same H3 (upd H3 pt (.tup [.int ((x - (t0 : Int)) % (sp : Int)), .str (nm ((x - (t0 : Int)) % (sp : Int)).toNat)])) := Same.new npt
    have s79 := sk3.trans s9
    refine ⟨_, rfl, _, _, _, _, rfl, rfl, SqT.of (s79 _ _ ht), at4.2.2.2, _, _, .tup (SqT.of upd_same) (.cons (.int _) (.cons (.str _) .nil)), .lst (SqL.of (s79 _ _ hpl)) (lays_vd (la.mono fun _ _ e => s79 _ _ e)), hone.1, lays_lay (fun j hj => hstr j (of_decide_eq_true (List.mem_filter.mp hj).2)), hone.2, _, rfl, ?_⟩
    rw [if_pos rfl, lays_any hx0 (by omega) hne]
    refine iteF ?_
    have hfd9 := s9 _ _ hfd
    have hp9 := s9 _ _ hp3
    have ht0s := ht0
    rw [tkOf_srt dr.nd] at ht0
    generalize upd H3 pt (.tup [.int ((x - (t0 : Int)) % (sp : Int)), .str (nm ((x - (t0 : Int)) % (sp : Int)).toNat)]) = H9 at hfd9 hp9 s79 ⊢
    obtain ⟨ts, hts⟩ : ∃ ts, cGet ks (nm ((x - (t0 : Int)) % (sp : Int)).toNat) = some ts := by
      unfold tkOf at ht0
      cases e : cGet ks (nm ((x - (t0 : Int)) % (sp : Int)).toNat) with
      | none => rw [e] at ht0; cases ht0
      | some ts => exact ⟨ts, rfl⟩
    have etk : tkOf (srt ks) (nm ((x - (t0 : Int)) % (sp : Int)).toNat) = ts := by rw [tkOf_srt dr.nd]; unfold tkOf; rw [hts]; rfl
    have ht0' : (t0 : Int) ∈ ts := by rw [← etk]; exact ht0s
    have gts : GT ts := (dr.good _ (get_mem hts)).2
    refine ⟨_, rfl, _, rfl, _, _, rfl, rfl, _, rfl, _, rfl, k, _, ws, ks, ts, _, rfl, s79 _ _ hk, dr.same s79, hts, fun t1 _ ht1 => ?_⟩
    refine ⟨_, _, rfl, .inl (SqL.of ht1), rfl, flats ts, _, rfl, ?_⟩
    rw [if_pos rfl, in_intS, show x - (x - (t0 : Int)) = (t0 : Int) by omega, decide_eq_true ht0']
    refine iteF ?_
    refine ⟨_, rfl, _, rfl, k, _, ws, ks, ts, _, rfl, s79 _ _ hk, dr.same s79, hts, fun t2 _ ht2 => ⟨_, rfl, ⟨_, SqL.of ht2⟩, ?_⟩⟩
    refine for_g (gives_list K t2 _) (fun i σ Hx => Same H9 Hx ∧ ∃ x7 x8, σ = [some (.ref b), some (.ref k), some (.ref t), some (.int x), some (.ref fd), some (.int (x - (t0 : Nat))), some (.str (nm ((x - (t0 : Int)) % (sp : Int)).toNat)), x7, x8]) ⟨Same.refl _, _, _, rfl⟩ (fun i σ Hx _ h => SqL.of (h.1 _ _ ht2)) ?_ ?_
    · rintro i y σ Hx hx ⟨sx, x7, x8, rfl⟩
      rw [List.getElem?_map] at hx
      cases ei : ts[i]? with
      | none => rw [ei] at hx; cases hx
      | some u =>
      rw [ei] at hx
      cases hx
      have hmu := List.mem_of_getElem? ei
      obtain ⟨u0, u7⟩ := gt_in gts u hmu
      have s9x := s79.trans sx
      refine ⟨_, rfl, _, rfl, _, rfl, _, _, rfl, rfl, .ref b, .int (x - (t0 : Nat) + u), rfl, b, l, G, ks, past, _, rfl, B.same s9x, ?_⟩
      rw [if_pos ⟨by omega, by omega⟩]
      refine ⟨fun m Hk sk sd => (ld.not sd).elim, fun p2 sp' fs' nm' t2' Hk2 sk2 ld' ol2 hp2 => ?_⟩
      obtain ⟨rfl, rfl, rfl⟩ := ld.unique ld'
      obtain ⟨tt, _, _, huniq⟩ := ld.over gcs nds nes (x - (t0 : Nat) + u)
      have ett : t2' = u.toNat := by
        rw [huniq t2' ol2.1 ol2.2]
        refine (huniq u.toNat (by omega) ?_).symm
        rw [show ((u.toNat : Nat) : Int) = u by omega, show x - (t0 : Nat) + u - u = x - (t0 : Nat) by omega, etk]
        exact hmu
      have ez : x - (t0 : Nat) + u - (t2' : Nat) = x - (t0 : Nat) := by omega
      rw [ez] at hp2
      refine ⟨bigr rfl, fun fd2 nfd2 => ?_⟩
      have s4 : Same Hk2 (upd Hk2 fd2 (.tup [.str (Str.ofString "told"), .ref p2])) := Same.new nfd2
      have hfd2 : upd Hk2 fd2 (.tup [.str (Str.ofString "told"), .ref p2]) fd2 = some (.tup [.str (Str.ofString "told"), .ref p2]) := upd_same
      generalize upd Hk2 fd2 (.tup [.str (Str.ofString "told"), .ref p2]) = H4 at s4 hfd2 ⊢
      have sx4 := sx.trans (sk2.trans s4)
      have hp24 := s4 _ _ hp2
      refine ⟨_, rfl, _, _, _, _, rfl, rfl, SqT.of hfd2, at0, rfl, _, rfl, ?_⟩
      refine iteF ?_
      refine ⟨_, rfl, _, _, _, _, rfl, rfl, SqT.of hfd2, at1, p2, _, _, rfl, hp24, _, rfl, ?_⟩
      refine iteF ?_
      refine ⟨_, rfl, _, _, _, _, rfl, rfl, SqT.of hfd2, at1, _, rfl, _, _, _, _, rfl, rfl, SqT.of (sx4 _ _ hfd9), at1, ?_⟩
      refine ⟨_, _, .tup (SqT.of hp24) (.cons (.int _) (.cons (.str _) .nil)), .tup (SqT.of (sx4 _ _ hp9)) (.cons (.int _) (.cons (.str _) .nil)), shaped_two (hstr _ hne), shaped_two (hstr _ hne), _, rfl, ?_⟩
      rw [if_pos rfl, eqv_two]
      refine iteF ?_
      exact ⟨sx4, _, _, rfl⟩
    · rintro σ Hx ⟨sx, x7, x8, rfl⟩
      exact q Hx (s79.trans sx)
--CUT--
theorem errs_ok : ∀ j, j < 15 → PyData.strOk (errName j) = true ∧ errName j ≠ Str.ofString "" := by decide +kernel
theorem kinds_take {G : Addr → Prop} {H : Hp} : ∀ {vs : List V} {ks : List (Str × List Int)} (n : Nat), KindsL G H vs ks → KindsL G H (vs.take n) (ks.take n)
  | _, _, 0, _ => trivial
  | [], [], _ + 1, _ => trivial
  | _ :: _, _ :: _, n + 1, ⟨a, b⟩ => ⟨a, kinds_take n b⟩
  | [], _ :: _, _ + 1, x => x.elim
  | _ :: _, [], _ + 1, x => x.elim
theorem drawn_take {G : Addr → Prop} {H : Hp} {vs : List V} {ks : List (Str × List Int)} (n : Nat) (d : Drawn G H vs ks) : Drawn G H (vs.take n) (ks.take n) :=
  ⟨kinds_take n d.rows, by rw [List.map_take]; exact d.nd.sublist (List.take_sublist n _), fun k hk => d.good k (List.mem_of_mem_take hk)⟩
theorem cut_to (ws : List V) (n : Nat) : cutV ws none (some (n : Int)) = ws.take n := by
  unfold cutV
  rw [HT.sIx_none, HT.sIx_nat, List.drop_zero, Nat.sub_zero]
  by_cases h : n ≤ ws.length
  · rw [Nat.min_eq_left h]
  · rw [Nat.min_eq_right (by omega), List.take_of_length_le (Nat.le_refl _), List.take_of_length_le (by omega)]
theorem sc_law : FnScope ["_law_script", "_law_kinds", "_law_book_here", "_law_told", "_law_place"] ["_law_script"] (defScope s_law) := ⟨rfl, rfl, rfl, by decide +kernel, rfl, by decide +kernel, by decide +kernel⟩
theorem ok_law {ea : Nat → Addr} {ce : Value} {C : Addr} (D : DefAt K mg "law" s_law) (T : Bn mg) (E14 : EJ K ea ce 14) (C_at : Callee P w K mg base "_law_at" 1 ["_law_script", "_law_k"] (sp_at K)) (C_combs : Callee P w K mg base "_law_combs" 2 ["_law_script"] (sp_combs K)) (C_book : Callee P w K mg base "_law_book" 4 ["_law_kinds"] (sp_mkbook C))
    (C_over : Callee P w K mg base "_law_over" 7 ["_law_book_here", "_law_place"] (spTryF K ea ce (sp_cline ea C))) (C_fill_line : Callee1 P w K mg base "fill_line" 5 ["book"] (sp_fline C)) (C_lineform : Callee P w K mg base "_law_lineform" 4 ["_law_told"] sp_lineform) (C_less : Callee P w K mg base "_law_less" 3 ["_law_kinds", "_law_counts"] sp_less) (C_refused : Callee P w K mg base "_law_refused" 2 ["_law_found", "_law_due"] (sp_refused K))
    (C_again : Callee P w K mg base "_law_again" 3 ["_law_kinds", "_law_told"] sp_again) (C_far : Callee P w K mg base "_law_far" 8 ["_law_book_here", "_law_kinds", "_law_told", "_law_place"] (sp_far C)) : Callee P w K mg base "law" 9 ["_law_script"] (spLawB K) := by
  refine D.callee sc_law (fun _ _ _ _ _ _ us hl => match us, hl with | [_], _ => rfl) (fun vs H Q E h => ?_) (fun f cdv A outer s H vs Q E hr h => ?_)
  · obtain ⟨a, ns, rfl, _⟩ := h
    rfl
  · obtain ⟨a, ns, rfl, hS, hl, hbits, q⟩ := h
    have S := sc_law
    have hu := hu_of hr
    have e18 : (10 : Int) ^ (18 : Int).toNat = 1000000000000000000 := by decide
    have p2 : (0 : Int) < 2 := by decide
    have p4 : (0 : Int) < 4 := by decide
    have pbig : (0 : Int) < 2 * 10 ^ (18 : Int).toNat - 39 := by decide
    refine ⟨_, pss_cons (ps_set (i := 1) S.nd rfl (Or.inr rfl) (pe_fn C_combs (hr.mono (by decide)) rfl (pa_cons (pv 0) pa_nil)))
    (pss_cut (ps_if (pt_cmpR op_eq (pe_op op_mod (pe_op op_fdiv (pe_fn C_at (hr.mono (by decide)) rfl (pa_cons (pv 0) (pa_cons (pe_int) pa_nil))) (pe_int)) (pe_int)) (pe_int) (nomark _))
      (pss_one (ps_set (i := 1) S.nd rfl (Or.inr rfl) (pe_slice sl_list (pv 1) (po_none) (po_some (pe_int)))))
      (pss_nil))
    (pss_cons (ps_set (i := 2) S.nd rfl (Or.inr rfl) (pe_fn C_book (hr.mono (by decide)) rfl (pa_cons (pv 1) pa_nil)))
    (pss_cons (ps_set (i := 3) S.nd rfl (Or.inr rfl) (pe_fn1 C_fill_line (hr.mono (by decide)) (by first | exact pass_try | exact pass1 | exact pass_E0) rfl (pa_cons (pv 2) pa_nil)))
    (pss_cons (ps_set (i := 4) S.nd rfl (Or.inr rfl) (pe_op op_mod (pe_fn C_at (hr.mono (by decide)) rfl (pa_cons (pv 0) (pa_cons (pe_int) pa_nil))) (pe_op op_sub (pe_op op_mulB (pe_int) (pe_op op_pow (pe_int) (pe_int))) (pe_int))))
    (pss_cut (ps_if (pt_cmpR op_eq (pe_op op_mod (pe_fn C_at (hr.mono (by decide)) rfl (pa_cons (pv 0) (pa_cons (pe_int) pa_nil))) (pe_int)) (pe_int) (nomark _))
      (pss_one (ps_set (i := 4) S.nd rfl (Or.inr rfl) (pe_op op_mod (pe_op op_mulB (pe_op op_mulB (pv 4) (pe_int)) (pe_op op_add (pe_int) (pe_fn C_at (hr.mono (by decide)) rfl (pa_cons (pv 0) (pa_cons (pe_int) pa_nil))))) (pe_op op_sub (pe_op op_mulB (pe_int) (pe_op op_pow (pe_int) (pe_int))) (pe_int)))))
      (pss_nil))
    (pss_cons (ps_set (i := 4) S.nd rfl (Or.inr rfl) (pe_op op_add (pe_op op_sub (pv 4) (pe_op op_pow (pe_int) (pe_int))) (pe_int)))
    (pss_cons (ps_if (pt_not (pt_val (pe_fn C_lineform (hr.mono (by decide)) rfl (pa_cons (pv 3) pa_nil))))
      (pss_one (ps_ret (pe_bl)))
      (pss_nil))
    (pss_cons (ps_if (pt_cmpR op_eq (pe_ix ix_tup (pv 3) (pe_int) (fun _ _ => rfl)) (pe_str) (nomark _))
      (pss_one (ps_ret (pe_and (pe_fn C_less (hr.mono (by decide)) rfl (pa_cons (pv 1) (pa_cons (pe_ix ix_tup (pv 3) (pe_int) (fun _ _ => rfl)) pa_nil))) (pe_one (pe_fn C_refused (hr.mono (by decide)) rfl (pa_cons (pe_fn C_over (hr.mono (by decide)) rfl (pa_cons (pv 2) (pa_cons (pv 4) pa_nil))) (pa_cons (pe_str) pa_nil)))))))
      (pss_nil))
    (pss_one (ps_ret (pe_and (pe_fn C_again (hr.mono (by decide)) rfl (pa_cons (pv 1) (pa_cons (pv 3) pa_nil))) (pe_one (pe_callB (call_all rfl) rfl T.n_all boot_all (pa_cons (pe_comp (own := ["_law_k"]) (caps := [(2, "_law_book_here"), (1, "_law_kinds"), (3, "_law_told"), (4, "_law_place")]) rfl ⟨rfl, rfl, rfl, rfl, ⟨⟨rfl, rfl, .inl rfl⟩, ⟨rfl, rfl, .inl rfl⟩, ⟨rfl, rfl, .inl rfl⟩, ⟨rfl, rfl, .inl rfl⟩, trivial⟩⟩ (pi_range1 rfl T.n_range (pa_cons (pe_int) pa_nil)) (fun _ _ _ _ _ _ => pg_name (i := 0) (nd_comp (by decide +kernel)) rfl (Or.inl rfl)) (fun _ _ _ _ _ _ => pts_nil) (fun _ _ _ _ _ _ => pe_fn C_far (hr.mono (by decide)) rfl (pa_cons (pv 1) (pa_cons (pv 2) (pa_cons (pv 3) (pa_cons (pe_op op_add (pv 4) (pv 0)) pa_nil)))))) pa_nil)))))))))))))), ?_⟩
    refine ⟨_, rfl, a, ns, rfl, hS, fun pk0 ks0 ws0 H1 s1 npk hpk0 dr0 hk80 => ?_⟩
    refine ⟨fun σ Hx => ∃ pk ws ks, σ = [some (.ref a), some (.ref pk), none, none, none] ∧ Same H Hx ∧ Hx pk = some (.lst ws) ∧ Drawn (fun _ => True) Hx ws ks ∧ ks.length ≤ 8, ?_, ?_⟩
    · refine ⟨_, rfl, a, ns, 10, rfl, s1.seq hS, by decide, _, _, rfl, rfl, ⟨p2, by decide⟩, _, _, rfl, rfl, p4, rfl, _, rfl, ?_⟩
      refine ite2 (fun _ => ?_) (fun _ => ?_)
      · refine ⟨_, rfl, _, rfl, _, _, rfl, SqL.of hpk0, fun p np => ?_⟩
        have s2 : Same H1 (upd H1 p (.lst (ws0.take 2))) := Same.new np
        have e : cutV ws0 none (some (2 : Int)) = ws0.take 2 := cut_to ws0 2
        rw [e]
        exact ⟨p, ws0.take 2, ks0.take 2, rfl, s1.trans s2, upd_same, drawn_take 2 (dr0.same s2), by rw [List.length_take]; omega⟩
      · exact ⟨pk0, ws0, ks0, rfl, s1, hpk0, dr0, hk80⟩
    rintro σ H1' ⟨pk, ws, ks, rfl, s1', hpk, dr, hk8⟩
    have gc : GC ks := fun c hc => (dr.good c hc).2
    have pm := srt_perm dr.nd
    refine ⟨_, rfl, pk, ws, ks, rfl, hpk, dr, hk8, fun b l G past H2 s2 nb nl nG B hpl => ?_⟩
    refine ⟨_, rfl, b, l, G, ks, past, rfl, B, fun t H3 s3 lr3 => ?_⟩
    have s13 := s1'.trans (s2.trans s3)
    have cp : CPow 10 18 := ⟨by decide, by decide, by decide⟩
    have m0 := fun z : Int => Int.emod_nonneg z (show (2 * 10 ^ (18 : Int).toNat - 39 : Int) ≠ 0 by decide)
    have m1 := fun z : Int => Int.emod_lt_of_pos z pbig
    rw [e18] at m0 m1
    refine ⟨_, rfl, a, ns, 9, rfl, s13.seq hS, by decide, _, _, rfl, rfl, cp, _, _, rfl, rfl, .of_left (intBits_le_64 (by decide) (by decide)), _, _, rfl, rfl, _, _, rfl, rfl, pbig, ?_⟩
    refine ⟨fun σ Hx => Hx = H3 ∧ ∃ n : Int, 0 ≤ n ∧ n < 1999999999999999961 ∧ σ = [some (.ref a), some (.ref pk), some (.ref b), some (.ref t), some (.int n)], ?_, ?_⟩
    · refine ⟨_, rfl, a, ns, 10, rfl, s13.seq hS, by decide, _, _, rfl, rfl, p2, rfl, _, rfl, ?_⟩
      have m2 := m0 (ns.getD (9 : Int).toNat 0)
      have m3 := m1 (ns.getD (9 : Int).toNat 0)
      refine ite2 (fun _ => ?_) (fun _ => ?_)
      · have hb := intBits_le_64 (show -(2 ^ 64) < ns.getD (9 : Int).toNat 0 % (2 * 10 ^ (18 : Int).toNat - 39) by rw [e18]; omega) (by rw [e18]; omega)
        refine ⟨_, rfl, _, _, rfl, rfl, .of_left hb, _, rfl, a, ns, 11, rfl, s13.seq hS, by decide, _, _, rfl, rfl, _, _, rfl, rfl, ?_, _, _, rfl, rfl, cp, _, _, rfl, rfl, .of_left (intBits_le_64 (by decide) (by decide)), _, _, rfl, rfl, _, _, rfl, rfl, pbig, rfl, _, ?_, ?_, rfl⟩
        · exact IntMulOk.of_le (intBits_mul_le hb (intBits_le_64 (show -(2 ^ 64) < (48271 : Int) by decide) (by decide))) (intBits_add_le (intBits_le_64 (show -(2 ^ 64) < (7919 : Int) by decide) (by decide)) (bits_at hbits _)) (by decide)
        · rw [e18]; exact m0 _
        · rw [e18]; exact m1 _
      · refine ⟨rfl, _, ?_, ?_, rfl⟩
        · rw [e18]; exact m2
        · rw [e18]; exact m3
    rintro σ Hx ⟨rfl, n, n0, n1, rfl⟩
    refine ⟨_, rfl, _, _, rfl, rfl, cp, _, _, rfl, rfl, _, _, rfl, rfl, ?_⟩
    rw [e18]
    refine ⟨_, rfl, t, srt ks, rfl, lr3, fun H4 s4 => ⟨_, rfl, ?_⟩⟩
    refine iteF ?_
    have lr4 := lr3.same s4
    have s24 := s2.trans (s3.trans s4)
    have B4 := B.same (s3.trans s4)
    rcases lr4 with ⟨sp, fs, nm, ps, pl, wl, ld, ht, hps, hpl', la⟩ | ⟨m, pc, sd, hm, ht, hpc⟩
    rotate_left
    · refine ⟨_, rfl, _, _, _, _, rfl, rfl, SqT.of ht, at0, rfl, _, rfl, ?_⟩
      refine iteT ?_
      have ecnt : ((List.range 128).map fun s => V.int ((cntD (srt ks) m s : Nat) - 1)) = (List.range 128).map fun s => V.int ((cntD ks m s : Nat) - 1) := List.map_congr_left fun s _ => by rw [cntD_perm pm]
      rw [ecnt] at hpc
      refine ⟨_, rfl, _, rfl, _, _, _, _, rfl, rfl, SqT.of ht, at1, pk, pc, ws, ks, m, rfl, s24 _ _ hpk, (dr.same s24).rows, hk8, gc, sd.perm pm, hpc, fun H5 s5 => ⟨_, rfl, ?_⟩⟩
      refine iteT ?_
      refine ⟨_, rfl, _, rfl, .ref b, .int (n - 1000000000000000000 + 20), rfl, b, l, G, ks, past, _, rfl, B4.same s5, ?_⟩
      rw [if_pos ⟨by omega, by omega⟩]
      refine ⟨fun m2 Hk sk sd2 => ?_, fun p sp fs nm t0 Hk sk ld ol hp => (ld.not sd).elim⟩
      refine ej_ans E14 fun fd H6 s6 an => ?_
      obtain ⟨le, hfd, hle⟩ := an
      exact ⟨fd, le, errName 14, rfl, (errs_ok 14 (by decide)).1, hfd, hle, fun H7 _ => q H7⟩
    refine ⟨_, rfl, _, _, _, _, rfl, rfl, SqT.of ht, at4.1, rfl, _, rfl, ?_⟩
    refine iteF ?_
    refine ⟨_, rfl, _, rfl, pk, t, ws, ks, srt ks, sp, fs, nm, ps, pl, wl, rfl, s24 _ _ hpk, (dr.same s24).rows, hk8, gc, pm, ld, fun c hc => name_ok (dr.good c hc).1, ht, hps, hpl', la, fun H5 s5 => ⟨_, rfl, ?_⟩⟩
    refine iteT ?_
    have s25 := s24.trans s5
    have B5 := B4.same s5
    refine ⟨3, rfl, by decide, by decide, fun D1 hD1 => ?_⟩
    refine comp_i (capv := [some (.ref b), some (.ref pk), some (.ref t), some (.int (n - 1000000000000000000 + 20))]) (by rfl) (gives_range 0 (3 : Int).toNat) (by rw [range_len]; exact big (by decide)) hD1 (fun _ _ => trivial) (fun _ => true) (fun _ => .bl true) (fun _ _ _ => nofun) (fun i x hx H R s' h => h H (Same.refl _)) ?_ ?_
    · intro i x hx _ H' R s' h
      obtain ⟨hi, rfl⟩ := range_int hx
      have hi : i < 3 := hi
      have s5' := s5.trans s'
      refine ⟨_, rfl, _, rfl, _, rfl, _, rfl, _, rfl, _, _, rfl, rfl, b, l, pk, t, _, G, past, ws, ks, sp, fs, nm, ps, pl, wl, rfl, B5.same s', s' _ _ (s25 _ _ hpk), dr.same (s25.trans s'), ld, s5' _ _ ht, s5' _ _ hpl', la.mono fun _ _ e => s5' _ _ e, by omega, by omega, fun H6 s6 => h H6 s6⟩
    · intro H' s' e
      refine ⟨_, [true, true, true], rfl, SqL.of ?_, q H'⟩
      rw [e]
      rfl
end
/-! ### the top -/
theorem walk {l : PySem.W.OpenLaw} {q : Program} {loose : List Str} {XP : (Str → Option Value) → Heap → Prop} {YP : World → Heap → Prop} {d : DefRec} {K : Params → PySem.W.Frag} (hn : l.most = some 63) (hdf : d.params.defaults = [])
    (hY : ∀ (w : World) (h : Heap), YP w h → (K w.params).In h)
    (F : ∀ (w : World) (mg : Str → Option Value) (fa : Addr) (h : Heap), (K w.params).In h → h.Ns mainGlobals mg → mg d.name = some (.ref fa) →
      ∃ fd : FuncData, (∀ (s : Shared) (u : Value), BindsTo s fd ⟨[u], []⟩ [("_law_script", u)]) ∧ ∀ base : Heap, (K w.params).In base → base.Ns mainGlobals mg → FnOk l.prog w (K w.params) mg base CX0 9 fa fd ["_law_script"] (spLawB (K w.params))) :
    PySem.W.WalkO q loose XP YP l.row.toRowW d [] (fun f vs => PySem.call f vs) :=
  L2.walk_ofB (n := 63) (k := 9) (x := "_law_script") (CX := fun _ => CX0) (sp := fun w => spLawB (K w.params)) hn (by decide) hdf ⟨rfl, by decide, by decide⟩ hY F (fun _ _ a ns hl hb _ hS => ⟨a, ns, rfl, hS, hl, hb, fun _ => rfl⟩) fun _ _ _ _ _ z => z
theorem all {l : PySem.W.OpenLaw} {w : World} {K : PySem.W.Frag} {h : Heap} {mg : Str → Option Value} {fa : Addr} (X : K.In h) (G : h.Ns mainGlobals mg) (hfa : mg "law" = some (.ref fa)) (T : Bn mg)
    (V_MOST_COMBS : ∃ t, mg "MOST_COMBS" = some (.int 8 t))
    (V_MOST_NAME : ∃ t, mg "MOST_NAME" = some (.int 6 t))
    (V_MOST_TOOTH : ∃ t, mg "MOST_TOOTH" = some (.int 7 t))
    (V_MOST_DEEDS : ∃ t, mg "MOST_DEEDS" = some (.int 300 t))
    (V_SHAPES : ∃ t, mg "SHAPES" = some (.int 128 t))
    (V_MOST_PLACE : ∃ t, mg "MOST_PLACE" = some (.int 1000000000000000000 t))
    {t_TOOTH_WORTH : Addr} (G_TOOTH_WORTH : mg "TOOTH_WORTH" = some (.ref t_TOOTH_WORTH)) (TC_TOOTH_WORTH : tupChk K t_TOOTH_WORTH [1, 2, 4, 8, 16, 32, 64, 128] = true)
    {C ce a0 a1 a2 a3 a4 a5 a6 a7 a8 a9 a10 a11 a12 a13 a14 : Addr}
    (R0 : mg "BadName" = some (.ref a0))
    (R1 : mg "BadTeeth" = some (.ref a1))
    (R2 : mg "NameTaken" = some (.ref a2))
    (R3 : mg "BookFull" = some (.ref a3))
    (R4 : mg "NoComb" = some (.ref a4))
    (R5 : mg "BadTooth" = some (.ref a5))
    (R6 : mg "ToothThere" = some (.ref a6))
    (R7 : mg "FirstTooth" = some (.ref a7))
    (R8 : mg "ToothMissing" = some (.ref a8))
    (R9 : mg "DeedsFull" = some (.ref a9))
    (R10 : mg "NothingDone" = some (.ref a10))
    (R11 : mg "BadShape" = some (.ref a11))
    (R12 : mg "BadPlace" = some (.ref a12))
    (R13 : mg "BadLength" = some (.ref a13))
    (R14 : mg "NoFilling" = some (.ref a14))
    (RCE : mg "CombError" = some (.ref ce)) (HCHK : errChk K [a0, a1, a2, a3, a4, a5, a6, a7, a8, a9, a10, a11, a12, a13, a14] ce [0, 1, 2, 3, 4, 9, 11, 12, 14] = true)
    (INIT : InitAt K mg C "Book" "Book.__init__" s_Book___init__) (BCHK : bookChk K C = true)
    (N_put : MethAt K C "Book" "put" s_Book_put)
    (N_names : MethAt K C "Book" "names" s_Book_names)
    (N_teeth : MethAt K C "Book" "teeth" s_Book_teeth)
    (N_check_comb : MethAt K C "Book" "check_comb" s_Book_check_comb)
    (N_set_comb : MethAt K C "Book" "set_comb" s_Book_set_comb)
    (N_do_deed : MethAt K C "Book" "do_deed" s_Book_do_deed)
    (D_shape_steps : DefAt K mg "shape_steps" s_shape_steps)
    (D_teeth_worth : DefAt K mg "teeth_worth" s_teeth_worth)
    (D_step_table : DefAt K mg "step_table" s_step_table)
    (D_rows_going_on : DefAt K mg "rows_going_on" s_rows_going_on)
    (D_narrow_row : DefAt K mg "narrow_row" s_narrow_row)
    (D_leads_on : DefAt K mg "leads_on" s_leads_on)
    (D_walk_round : DefAt K mg "walk_round" s_walk_round)
    (D_first_lasting_step : DefAt K mg "first_lasting_step" s_first_lasting_step)
    (D_fill_line : DefAt K mg "fill_line" s_fill_line)
    (D_filled_line : DefAt K mg "filled_line" s_filled_line)
    (D_places_from : DefAt K mg "places_from" s_places_from)
    (D_is_name : DefAt K mg "is_name" s_is_name)
    (D_is_small_letter : DefAt K mg "is_small_letter" s_is_small_letter)
    (D_are_teeth : DefAt K mg "are_teeth" s_are_teeth)
    (D_comb_over_line : DefAt K mg "comb_over_line" s_comb_over_line)
    (D_check_filled : DefAt K mg "check_filled" s_check_filled)
    (D_reaching_places : DefAt K mg "reaching_places" s_reaching_places)
    (D_laying_over : DefAt K mg "laying_over" s_laying_over)
    (D_at : DefAt K mg "_law_at" s_at)
    (D_mixed : DefAt K mg "_law_mixed" s_mixed)
    (D_word : DefAt K mg "_law_word" s_word)
    (D_spare : DefAt K mg "_law_spare" s_spare)
    (D_menu : DefAt K mg "_law_menu" s_menu)
    (D_combs : DefAt K mg "_law_combs" s_combs)
    (D_book : DefAt K mg "_law_book" s_book)
    (D_whole : DefAt K mg "_law_whole" s_whole)
    (D_laying : DefAt K mg "_law_laying" s_laying)
    (D_layings : DefAt K mg "_law_layings" s_layings)
    (D_lineform : DefAt K mg "_law_lineform" s_lineform)
    (D_after : DefAt K mg "_law_after" s_after)
    (D_goes : DefAt K mg "_law_goes" s_goes)
    (D_number : DefAt K mg "_law_number" s_number)
    (D_ahead : DefAt K mg "_law_ahead" s_ahead)
    (D_teeth : DefAt K mg "_law_teeth" s_teeth)
    (D_kind : DefAt K mg "_law_kind" s_kind)
    (D_refused : DefAt K mg "_law_refused" s_refused)
    (D_over : DefAt K mg "_law_over" s_over)
    (D_far : DefAt K mg "_law_far" s_far)
    (D_again : DefAt K mg "_law_again" s_again)
    (D_less : DefAt K mg "_law_less" s_less)
    (D_law : DefAt K mg "law" s_law) :
    ∃ fd : FuncData, (∀ (s : Shared) (v : Value), BindsTo s fd ⟨[v], []⟩ [("_law_script", v)]) ∧ ∀ base : Heap, K.In base → base.Ns mainGlobals mg → FnOk l.prog w K mg base CX0 9 fa fd ["_law_script"] (spLawB K) := by
  have BA := book_of BCHK
  have E (j : Nat) (hj : j ∈ [0, 1, 2, 3, 4, 9, 11, 12, 14]) (h15 : j < 15) := ej_of HCHK hj h15
  have E4 := E 4 (by decide) (by decide)
  refine D_law.entry hfa (fun _ _ _ _ _ _ v => rfl) fun base => ?_
  have c_kind := ok_kind (P := l.prog) (w := w) (base := base) D_kind T (ea := fun i => [a0, a1, a2, a3, a4, a5, a6, a7, a8, a9, a10, a11, a12, a13, a14].getD i 0) ⟨R0, R1, R2, R3, R4, R5, R6, R7, R8, R9, R10, R11, R12, R13, R14⟩
  have m_check := ok_check (P := l.prog) (w := w) (base := base) (ea := fun i => [a0, a1, a2, a3, a4, a5, a6, a7, a8, a9, a10, a11, a12, a13, a14].getD i 0) N_check_comb T BA (E4.err R4)
  have m_do := ok_do (P := l.prog) (w := w) (base := base) (ea := fun i => [a0, a1, a2, a3, a4, a5, a6, a7, a8, a9, a10, a11, a12, a13, a14].getD i 0) N_do_deed T BA V_MOST_DEEDS ((E 9 (by decide) (by decide)).err R9)
  have m_set := ok_set (ea := fun i => [a0, a1, a2, a3, a4, a5, a6, a7, a8, a9, a10, a11, a12, a13, a14].getD i 0) N_set_comb T BA m_do
  have m_put := ok_put (ea := fun i => [a0, a1, a2, a3, a4, a5, a6, a7, a8, a9, a10, a11, a12, a13, a14].getD i 0) N_put T BA V_MOST_COMBS ((E 0 (by decide) (by decide)).err R0) ((E 1 (by decide) (by decide)).err R1) ((E 2 (by decide) (by decide)).err R2) ((E 3 (by decide) (by decide)).err R3) (ok_name D_is_name T V_MOST_NAME (ok_small D_is_small_letter T)) (ok_teeth D_are_teeth T V_MOST_TOOTH) m_set
  have m_names := ok_names (P := l.prog) (w := w) (base := base) N_names T BA
  have m_teeth := ok_bteeth N_teeth T BA m_check
  have c_at := ok_at (P := l.prog) (w := w) (base := base) D_at T
  have c_whole := ok_whole (P := l.prog) (w := w) (base := base) D_whole T
  have c_word := ok_word (P := l.prog) (w := w) (base := base) D_word T
  have c_combs := ok_combs D_combs T c_at (ok_mixed D_mixed T) c_word (ok_spare D_spare T) (ok_menu D_menu T)
  have c_book : L2.Callee l.prog w K mg base "_law_book" 4 ["_law_kinds"] (sp_mkbook C) := by
    obtain ⟨fi, fdi, mk, fu⟩ := INIT.ex
    exact ok_mkbook D_book T BA ⟨fi, fdi, mk, ok_init fu T BA, INIT.m, fu.binds (fun _ _ _ _ _ _ us hl => match us, hl with | [_], _ => rfl)⟩ m_put
  have f_steps := ok_steps (ea := fun i => [a0, a1, a2, a3, a4, a5, a6, a7, a8, a9, a10, a11, a12, a13, a14].getD i 0) D_shape_steps T BA V_SHAPES ((E 11 (by decide) (by decide)).err R11) (ok_worth D_teeth_worth T G_TOOTH_WORTH (tup_chk TC_TOOTH_WORTH)) m_names m_teeth
  have f_line := ok_fline D_fill_line T V_SHAPES (ok_table D_step_table T V_SHAPES f_steps) (ok_rows D_rows_going_on T (ok_narrow D_narrow_row T (ok_leads D_leads_on T))) (ok_walk D_walk_round T (ok_first D_first_lasting_step T)) (ok_filled D_filled_line T) (ok_places D_places_from T)
  have f_over := ok_over (ea := fun i => [a0, a1, a2, a3, a4, a5, a6, a7, a8, a9, a10, a11, a12, a13, a14].getD i 0) D_laying_over T BA m_teeth
  have f_cline := ok_cline (ea := fun i => [a0, a1, a2, a3, a4, a5, a6, a7, a8, a9, a10, a11, a12, a13, a14].getD i 0) D_comb_over_line T V_MOST_PLACE ((E 12 (by decide) (by decide)).err R12) f_line (ok_chkf (ea := fun i => [a0, a1, a2, a3, a4, a5, a6, a7, a8, a9, a10, a11, a12, a13, a14].getD i 0) D_check_filled T ((E 14 (by decide) (by decide)).err R14)) (ok_reach D_reaching_places T V_MOST_TOOTH) f_over
  have c_ahead := ok_ahead (P := l.prog) (w := w) (base := base) D_ahead T
  have c_laying := ok_laying (P := l.prog) (w := w) (base := base) D_laying T c_whole
  have c_teeth := ok_lteeth (P := l.prog) (w := w) (base := base) D_teeth T
  have c_goes := ok_goes (P := l.prog) (w := w) (base := base) D_goes T (ok_after D_after T)
  have c_number := ok_number (P := l.prog) (w := w) (base := base) D_number T
  have c_over := ok_tover D_over T RCE c_kind f_cline
  exact ok_law D_law T (E 14 (by decide) (by decide)) c_at c_combs c_book c_over f_line (ok_lineform D_lineform T c_whole (ok_layings D_layings T c_laying)) (ok_less D_less T c_whole c_ahead c_goes c_number) (ok_refused D_refused T) (ok_again D_again T c_ahead c_goes c_number) (ok_far D_far T c_over c_laying c_teeth)
end K30
--CUT2--
open PySem PySem.W PyProof.Rows
namespace PySem.W.Fast
def tw16343374475572617109 := 0
def tw6260383116339087118 := 0
def tw875659851821740653 := 0
def tw17001900323926918455 := 0
def tw17823114424168967316 := 0
def tw17913597749885421698 := 0
def tw10367850183793252053 := 0
def tw6987689966750122293 := 0
def tw6488646513126167678 := 0
def tw16083278018776239541 := 0
def tw11669417996509667263 := 0
def tw6526327551382366887 := 0
def tw14145426930087965751 := 0
def tw7651451308273633565 := 0
def tw11294247323465018665 := 0
def tw495147531263927131 := 0
def tw2181050040230703229 := 0
def tw16274856571541259553 := 0
def tw681503887032241895 := 0
def tw5630070350967997826 := 0
def tw13296564593298750005 := 0
def tw8633055881609938207 := 0
def tw14704450431976111852 := 0
def tw3169658552922690741 := 0
def tw2564182872160391988 := 0
def tw4856353278008213743 := 0
def tw11137480832166725897 := 0
def tw6353057131611072775 := 0
def tw5376682133066190584 := 0
def tw9998990188299500074 := 0
def tw2036882892108626114 := 0
def tw12234296114909480556 := 0
def tw11279324220513285236 := 0
def tw18045316747997960519 := 0
def tw3324616070315837859 := 0
def tw18079407086116808231 := 0
def tw5556343666680184182 := 0
def tw18205930954463139037 := 0
def tw14664676940928174188 := 0
def tw17493454393391454101 := 0
def tw16084474540574721895 := 0
def tw3580851481273059966 := 0
def tw348668014825234840 := 0
def tw9953107940903374337 := 0
def tw4196696509657508838 := 0
def tw15286731530071774777 := 0
def tw4975188189562680005 := 0
def tw8826573758130785756 := 0
def tw13013125408095026164 := 0
def tw17863883021458594988 := 0
def tw376269050194673644 := 0
def tw2641991064757830939 := 0
def tw9043130627213536227 := 0
def tw12447461769759320298 := 0
def tw2400774939417033609 := 0
def tw3738124387039165255 := 0
def tw17190529804849360046 := 0
def tw388424445201825737 := 0
def tw9939798054889780264 := 0
def tw12495885201943255587 := 0
def tw15205934095415999164 := 0
def tw11074827663749457856 := 0
def tw15709146178405929009 := 0
def tw15668511777955105010 := 0
def tw8793523685575916275 := 0
def tw15690959889229896600 := 0
def tw11100578519184975375 := 0
def tw18418342226453980589 := 0
def tw2841540516114838229 := 0
def tw4366621171975694605 := 0
def tw10258656986959836740 := 0
def tw12174663136559899852 := 0
def tw16189982001239627644 := 0
def tw4082184623107678499 := 0
def tw11970493682728074566 := 0
def tw7910757216967373412 := 0
def tw11718344894576841128 := 0
def tw5508373798332988094 := 0
def tw5985748298372611562 := 0
def tw6526691527315715669 := 0
def tw7626741395249274807 := 0
def tw16320959707376725886 := 0
def tw4349691942846414782 := 0
def tw10520064224267341722 := 0
def tw17521706008159756822 := 0
def tw12123585613773129208 := 0
def tw5488601621129693982 := 0
def tw7777923716117675142 := 0
def tw5054143808558586047 := 0
def tw9878282368357271540 := 0
def tw15608120629190726158 := 0
def tw17564149462799558614 := 0
def tw16020650657228358315 := 0
def tw18279149644689914086 := 0
def tw17530793255863746260 := 0
def tw83843618465661373 := 0
def tw14034685082829232285 := 0
def tw11187428567125732817 := 0
def tw17479927588083976662 := 0
def tw13480833037768491576 := 0
def tw13748461240503878066 := 0
def tw18026498480605120600 := 0
def tw6155099764826317682 := 0
def tw1198273531700104724 := 0
def tw787067641988493316 := 0
def tw11586348751131597939 := 0
def tw4022762962227610448 := 0
def tw13389046515725136122 := 0
def tw17754867797090893931 := 0
def tw11452347392270391428 := 0
def tw4351554905321760460 := 0
def tw8562632603400873258 := 0
def tw12013673588205390655 := 0
def tw13795521198444767134 := 0
def tw1166157046985514854 := 0
def tw10849223156001706212 := 0
def tw3053615638501791283 := 0
def tw12808352560031549928 := 0
def tw7162492280961310995 := 0
def tw15253060970780068426 := 0
def tw16455553326431946640 := 0
def tw4795833987879937489 := 0
def tw1729840121811358910 := 0
def tw13481718818064773657 := 0
def tw859374598610244074 := 0
def tw14909207053015772269 := 0
def tw7790085442888297388 := 0
def tw1074472050690563807 := 0
def tw10991977326259294449 := 0
def tw11115279843004375515 := 0
def tw16677155314064488741 := 0
def tw6717370874289265160 := 0
def tw7971564722167068737 := 0
def tw8548837578746280774 := 0
def tw5702367910173123461 := 0
def tw8217032059513982442 := 0
def tw829381219720056864 := 0
def tw4885491903610217453 := 0
def tw1057055539009357424 := 0
def tw11696407402920577558 := 0
def tw7776233659258887853 := 0
def tw14857122686334902543 := 0
def tw13758220453962744711 := 0
def tw11346801543749894470 := 0
def tw3124642785032626804 := 0
def tw13238078844860276616 := 0
def tw16415484464361096801 := 0
def tw12866313495073955267 := 0
def tw9169567242145925043 := 0
def tw4971897379899164745 := 0
def tw3043845776063356888 := 0
def tw8581852191671653370 := 0
def tw9788165093959710383 := 0
def tw11634771158693080576 := 0
def tw11530798600691600070 := 0
def tw3942335133549712092 := 0
def tw11352160888466213691 := 0
def tw12000050749735191277 := 0
def tw7096088719681024454 := 0
def tw2263846296375636569 := 0
def tw13048934883152717044 := 0
def tw12058292360294955190 := 0
def tw7419756801314960955 := 0
def tw985425012872326661 := 0
def tw2527307956858777564 := 0
def tw12684534115515930625 := 0
def tw17727625771741393856 := 0
def tw13962117737232979096 := 0
def tw14417645589147455366 := 0
def tw8907605236806006937 := 0
def tw10788853252634140505 := 0
def tw17231826057692561291 := 0
def tw5473746400330903265 := 0
def tw7149966843834987952 := 0
def tw8302226047898540294 := 0
def tw5550067654357422340 := 0
def tw1737922113645192096 := 0
def tw14026875049018875361 := 0
def tw278209350566470717 := 0
def tw7575549422486011596 := 0
def tw6253751873369145347 := 0
def tw2607280543952937977 := 0
def tw9675551183123472990 := 0
def tw9520905167403604479 := 0
def tw14819893479301802118 := 0
def tw14581030255344442013 := 0
def tw3564083032686366889 := 0
def tw6452950598675846840 := 0
def tw16841276284623274762 := 0
def tw3015931847497796233 := 0
def tw13166628460222775755 := 0
def tw9739808201302496238 := 0
def tw673428140814660289 := 0
def tw2839705994071152337 := 0
def tw13614778233061309693 := 0
def tw8043230618701368746 := 0
def tw3426715967529309411 := 0
def tw11511708390006903173 := 0
def tw5014241379708999824 := 0
def tw15399345798507101529 := 0
def tw12154900436278471736 := 0
def tw2505606969764582528 := 0
def tw499764899813711734 := 0
def tw16111109775634798560 := 0
def tw12732775441406660437 := 0
def tw18118335187270694854 := 0
def tw18260895121154020848 := 0
def tw9878386562091145231 := 0
def tw2952205810755246379 := 0
def tw10698065465716285304 := 0
def tw4146959931843272826 := 0
def tw698726390145131037 := 0
def tw12963659314605020227 := 0
def tw1413999585278255536 := 0
def tw12945503836940198269 := 0
def tw4059344372647639544 := 0
def tw12813226057679968939 := 0
def tw12995129792930177151 := 0
def tw11834030850302206223 := 0
def tw18013678412722150608 := 0
def tw2667781388474163122 := 0
def tw9554729338508404421 := 0
def tw12713886402805296466 := 0
def tw6434543707771255850 := 0
def tw3918074550952832253 := 0
def tw3526429041899542309 := 0
def tw9257828967072533077 := 0
def tw2643456766385514697 := 0
def tw1129405978109693109 := 0
def tw10208513873380262648 := 0
def tw1231922571894214120 := 0
def tw2397852927141650101 := 0
def tw14349298393889134192 := 0
def tw13335642853656694959 := 0
def tw2348637316693379435 := 0
def tw15073991987432073280 := 0
def tw10365870481233319300 := 0
def tw12907247364950335003 := 0
def tw10828608737610880128 := 0
def tw14007278270795034533 := 0
def tw6269759849006923865 := 0
def tw5000873275345212598 := 0
def tw17098763373238178011 := 0
def tw8638226415766749636 := 0
def tw5746168073861383079 := 0
def tw14215096303227587112 := 0
def tw17832841350281613678 := 0
def tw5967091230825241908 := 0
def tw10374400518233891466 := 0
def tw8488353644883126015 := 0
def tw549804002150748374 := 0
def tw14340490325120708163 := 0
def tw12973202697275809886 := 0
def tw15562598754173949682 := 0
def tw8560136718376801446 := 0
def tw8285068479854193052 := 0
def tw2737605903353814781 := 0
def tw374341218618404414 := 0
def tw3790105131179408268 := 0
def tw18198195044140702783 := 0
def tw8540817248792653059 := 0
def tw17882799038094883935 := 0
def tw10566816213679578428 := 0
def tw4219725355682764716 := 0
def tw371070792905264681 := 0
def tw2680903194663794135 := 0
def tw15261888193253319404 := 0
def tw12334039891749917561 := 0
def tw9851793950189039158 := 0
def tw11582265046184428546 := 0
def tw18392387440469050795 := 0
def tw5555268919095401259 := 0
def tw17602981656075793006 := 0
def tw13853174719126165709 := 0
def tw16312296821851940242 := 0
def tw8198409423337404854 := 0
def tw1989201713678815733 := 0
def tw14208013232427462750 := 0
def tw6491485612167574245 := 0
def tw9283946888324707532 := 0
def tw2345863234142557920 := 0
def tw16195605559501960140 := 0
def tw3498347989679743778 := 0
def tw16863432477035624282 := 0
def tw5587705993619345675 := 0
def tw15580532581792420227 := 0
def tw6746242299183574731 := 0
def tw5500694253873785166 := 0
def tw14683042842092785649 := 0
def tw7832151989080492112 := 0
def tw7929025354450426829 := 0
def tw3779736094658140084 := 0
def tw3744236312213410234 := 0
def tw13926510881063345270 := 0
def tw11853253074029183775 := 0
def tw214523585377289431 := 0
def tw4282360770271654830 := 0
def tw2633820925218611496 := 0
def tw486188132019848662 := 0
def tw5446282887566665674 := 0
def tw13853239829860823335 := 0
def tw14347002351751835600 := 0
def tw12384427387861057095 := 0
def tw1463499852719712609 := 0
def tw5992548067172835703 := 0
def tw21084271344037612 := 0
def tw15499261244827390194 := 0
def tw16743263490006841290 := 0
def tw6661961738145181149 := 0
def tw564985379102578941 := 0
def tw16865694634900512523 := 0
def tw8351460091688551153 := 0
def tw14951039898410977010 := 0
def tw6441657524664144995 := 0
def tw12967618082818594386 := 0
def tw4144359800963332587 := 0
def tw4433253947677501404 := 0
def tw12013882757145765720 := 0
def tw11959787020736747768 := 0
def tw7223014726378135551 := 0
def tw6678582860051366569 := 0
def tw13406501259331974986 := 0
def tw3163407942013379802 := 0
def tw17838769822929070241 := 0
def tw5552115347137812105 := 0
def tw8048499143782243769 := 0
def tw9921355344305199679 := 0
def tw6254809934082787288 := 0
def tw11995350349583634151 := 0
def tw10596231804932699731 := 0
def tw1457178952705343145 := 0
def tw3893119407026384371 := 0
def tw15168681971960898347 := 0
def tw16929324953802692901 := 0
def tw1989358207780998200 := 0
def tw10858489051088156070 := 0
def tw1395920786740579724 := 0
def tw13608063884590315224 := 0
def tw1662688752651408015 := 0
def tw15015944178662550699 := 0
def tw6433732078950832312 := 0
def tw13225745577466995475 := 0
def tw6704406223964610679 := 0
def tw3046632253584402695 := 0
def tw13526990810821278552 := 0
def tw866800228020911363 := 0
def tw8343451275873107498 := 0
def tw3154789882943163591 := 0
def tw560332564255539977 := 0
def tw6932278833046486689 := 0
def tw9597052165240357453 := 0
def tw9403734053984957271 := 0
def tw5904303762646916793 := 0
def tw11696422675698692170 := 0
def tw17765091173814655737 := 0
def tw4398272941741985402 := 0
def tw1259863922032570168 := 0
def tw17779034652306657058 := 0
def tw15851544311165589030 := 0
def tw1334349813226701721 := 0
def tw7583207718488960925 := 0
def tw397602057238026604 := 0
def tw8701149571257874950 := 0
def tw10850850271888931121 := 0
def tw15089585598187132710 := 0
def tw5367395725854330458 := 0
def tw9888460772950320684 := 0
def tw5521236425253860545 := 0
def tw5850882400806656269 := 0
def tw6267794797388205947 := 0
def tw12168207042657487476 := 0
def tw18444981824478885598 := 0
def tw2682389836061165081 := 0
def tw14210601004197513976 := 0
def tw11805943171679484290 := 0
def tw12705536828741271358 := 0
def tw4729974220451815487 := 0
def tw14359293772535515735 := 0
def tw1261176402220535121 := 0
def tw16733182461048354279 := 0
def tw563374208145657554 := 0
def tw4082437296441168573 := 0
def tw18134079520529312236 := 0
def tw5894110561069865763 := 0
def tw9681129222815857371 := 0
def tw5528271419295196917 := 0
def tw17010872626632902825 := 0
def tw17150738561414299632 := 0
def tw17694063750362936792 := 0
def tw16954767416368530136 := 0
def tw8743425744087994994 := 0
def tw14164016874053713182 := 0
def tw290467628440024286 := 0
def tw11647496575089876728 := 0
def tw4363864938141723956 := 0
def tw13054586073072118990 := 0
def tw6687586328404285357 := 0
def tw12799177440963938891 := 0
def tw10500335468266872617 := 0
def tw8594003174334414241 := 0
def tw1340214432083159873 := 0
def tw12563099406265516486 := 0
def tw3482963043269224273 := 0
def tw15924116460336474502 := 0
def tw18270113257920649442 := 0
def tw2771537849761995921 := 0
def tw1090716897602123263 := 0
def tw3795190220112323136 := 0
def tw918793461670458227 := 0
def tw6228909623967596253 := 0
def tw17168998058515916524 := 0
def tw11147363446773518938 := 0
def tw11578386833757354081 := 0
def tw14968151757935368171 := 0
def tw797503814329681132 := 0
def tw12497538761248784378 := 0
def tw5183854601422057876 := 0
def tw7116138960877741613 := 0
def tw14341632322623383789 := 0
def tw15077855699023350920 := 0
def tw4197189144151829801 := 0
def tw17836434337103937450 := 0
def tw17895999003850868315 := 0
def tw9986925015401982982 := 0
def tw9444644608954068249 := 0
def tw12490518379689705009 := 0
def tw3317291003271964012 := 0
def tw2016788881705836234 := 0
def tw16248652040876264625 := 0
def tw3987258978456935409 := 0
def tw10591270252784529478 := 0
def tw14035989800256366371 := 0
def tw12878489681667134098 := 0
def tw7852411037305101914 := 0
def tw7288644168082218800 := 0
def tw8303277003477392360 := 0
def tw14695264333246834137 := 0
def tw4371972279312001720 := 0
def tw5743893414469685683 := 0
def tw15007673703740333169 := 0
def tw18331175488050394204 := 0
def tw820576087756316446 := 0
def tw15415861800973973089 := 0
def tw15074438621213121381 := 0
def tw9073757989739439507 := 0
def tw856813296243367510 := 0
def tw17232657353257802440 := 0
def tw7936040404647870859 := 0
def tw11117608767431854720 := 0
def tw9958564303991431230 := 0
def tw551390268489338473 := 0
def tw8425265703485636521 := 0
def tw15372616506952815440 := 0
def tw12471344722334359361 := 0
def tw9040786371123437639 := 0
def tw2454979323954033036 := 0
def tw16823740775378852778 := 0
def tw517138244600643879 := 0
def tw15128126490345226057 := 0
def tw1484308181860289556 := 0
def tw11174106219281234626 := 0
def tw181133708268266270 := 0
def tw9478760058249740805 := 0
def tw10735432963253618837 := 0
def tw5932368195367986920 := 0
def tw12616136331452310652 := 0
def tw6158189493209100820 := 0
def tw8378349778325435734 := 0
def tw7813413750215443819 := 0
def tw3656645969386822214 := 0
def tw15321134732003608405 := 0
def tw18339542052518491236 := 0
def tw13983504894798046951 := 0
def tw11037519059382700897 := 0
def tw9284556420834563436 := 0
def tw14450803899809586830 := 0
def tw515102689875556358 := 0
def tw14372480646083890052 := 0
def tw3080473328349143057 := 0
def tw11517819191035007789 := 0
def tw1021109944485482463 := 0
def tw1964066923447509711 := 0
def tw11274797482013267818 := 0
def tw9150049004272041312 := 0
def tw1393567341912136726 := 0
def tw16066326870752793420 := 0
def tw8664725092848301709 := 0
def tw17524366081362688928 := 0
def tw9395869013982909720 := 0
def tw11608850314540807623 := 0
def tw2693888242509240939 := 0
def tw12919072122665405970 := 0
def tw11580648022953751311 := 0
def tw10723604806776053728 := 0
def tw2234862689551715966 := 0
def tw3626477655498623256 := 0
def tw6150475753344939616 := 0
def tw13950221488615338637 := 0
def tw13942557600934243577 := 0
def tw15776076775751139589 := 0
def tw16874205500173365592 := 0
def tw9872363751359951072 := 0
def tw17469198744465390992 := 0
def tw6027751021811650760 := 0
def tw15648878477806282367 := 0
def tw11196115270367848083 := 0
def tw3970387698817509656 := 0
def tw3993959139960939173 := 0
def tw14533582683194816538 := 0
def tw11269124813108989421 := 0
def tw14595268014999362997 := 0
def tw1688962233132713615 := 0
def tw3639422272886807215 := 0
def tw13768053298022025647 := 0
def tw13720074317123007750 := 0
def tw10923298671065385688 := 0
def tw2190297886779819484 := 0
def tw13068389963058626116 := 0
def tw13588257026315533144 := 0
def tw1278719981996476324 := 0
def tw14011784721326510186 := 0
def tw717225035455328781 := 0
def tw12420844355989392723 := 0
def tw12423484329646441683 := 0
def tw180286756443833695 := 0
def tw2893749196489107473 := 0
def tw14489484727941016945 := 0
def tw15808792200116329487 := 0
def tw13686205663893115286 := 0
def tw1064394988091782600 := 0
def tw1528438758850827535 := 0
def tw3232147503108901435 := 0
def tw818368935268704807 := 0
def tw625021297504225931 := 0
def tw16092255467960214764 := 0
def tw2439462927834713549 := 0
def tw13265668101490873487 := 0
def tw18114728415426615240 := 0
def tw5289233198719876729 := 0
def tw11547383863912835684 := 0
def tw8147471101890316958 := 0
def tw10566466888521754869 := 0
def tw195367599129280712 := 0
def tw7343284287514395275 := 0
def tw5903495447650196726 := 0
def tw11917433627952652707 := 0
def tw15321742857295518606 := 0
def tw9169176073419652930 := 0
def tw15511235051519032989 := 0
def tw12281022201235231517 := 0
def tw17824817211062178813 := 0
def tw160595447833763765 := 0
def tw16423555249708888981 := 0
def tw9252440136657245928 := 0
def tw3525978698899252521 := 0
def tw14559080329474329346 := 0
def tw3228167718429527128 := 0
def tw6476758063192940816 := 0
def tw7271750201656709499 := 0
def tw17177120973241724452 := 0
def tw6625513000907901070 := 0
def tw14775955438621045319 := 0
def tw17672142324289504381 := 0
def tw10924511119186812263 := 0
def tw12557375001395865400 := 0
def tw13127520299463088718 := 0
def tw4356144567934318427 := 0
def tw3003874994934684169 := 0
def tw16748719336798777008 := 0
def tw390779683692999130 := 0
def tw1690699199039904781 := 0
def tw9151556808508529169 := 0
def tw1491357391969421 := 0
def tw8348320869391633053 := 0
def tw8519374552287967103 := 0
def tw13444765586223556947 := 0
def tw6307809950248095449 := 0
def tw7659401434063140607 := 0
def tw9165679923095376349 := 0
def tw12374644636560718544 := 0
def tw14707735195100875917 := 0
def tw849272504154280761 := 0
def tw11504405047487419426 := 0
def tw614568556170776443 := 0
def tw10485851570468998632 := 0
def tw18031030504879259757 := 0
def tw8631698660593925472 := 0
def tw18123394377279278993 := 0
def tw2710351242050268001 := 0
def tw9053464159765876659 := 0
def tw9414380505996603483 := 0
def tw9568323217920210868 := 0
def tw8079218302239393005 := 0
def tw8532360034381226337 := 0
def tw17700194304859178606 := 0
def tw4185716994151948758 := 0
def tw11682597911694162252 := 0
def tw17406183176287947936 := 0
def tw13019936869860314917 := 0
def tw10053291934644887664 := 0
def tw7866164351264781915 := 0
def tw12682703751680226167 := 0
def tw13665315304715994431 := 0
def tw3404673902713579774 := 0
def tw11217959571800900785 := 0
def tw8224457060533179655 := 0
def tw11288993098781794644 := 0
def tw5262297690645049390 := 0
def tw16568203297876675583 := 0
def tw810539261253528534 := 0
def tw11289651170041634948 := 0
def tw11117441291570524582 := 0
def tw8276603754474987344 := 0
def tw3019225530786797781 := 0
def tw5204588089778508204 := 0
def tw3405626291636485248 := 0
def tw15864919108023817546 := 0
def tw17187529419831769665 := 0
def tw18436375184943598326 := 0
def tw15566731105565800271 := 0
def tw6242298882014974166 := 0
def tw10174876517940107746 := 0
def tw11050193766925461804 := 0
def tw7653430092890642355 := 0
def tw13244593154820911111 := 0
def tw11128928128843357930 := 0
def tw16321030578176006620 := 0
def tw18146078283174400336 := 0
def tw7605619101952709392 := 0
def tw4942464588258573371 := 0
def tw17830585682638927009 := 0
def tw1897083036377769189 := 0
def tw9560492529184420339 := 0
def tw4293777070769574509 := 0
def tw9546636082974834035 := 0
def tw14145814893558709623 := 0
def tw18258518455189490688 := 0
def tw8816964139081078857 := 0
def tw9056652596337218332 := 0
def tw8616127707948975473 := 0
def tw9163115058343170503 := 0
def tw14815118856554338474 := 0
def tw6915449483369321902 := 0
def tw18004752422211144475 := 0
def tw12302632346802420393 := 0
def tw10151475289188773988 := 0
def tw11404636877636468322 := 0
def tw6466914034236807008 := 0
def tw9101041456505196020 := 0
def tw5779512592373839535 := 0
def tw5899254900631334053 := 0
def tw16901832496224847827 := 0
def tw5370700652612774191 := 0
def tw1589168520777455020 := 0
def tw1653115932329005134 := 0
def tw17537124618545573171 := 0
def tw6276179442562641858 := 0
def tw1817303012932438461 := 0
def tw5026374316474568490 := 0
def tw5478696011943415190 := 0
def tw1923258653196845891 := 0
def tw9707686168282687039 := 0
def tw11126998248299890551 := 0
def tw16910687058559094821 := 0
def tw6582168045644071396 := 0
def tw15535773263782256890 := 0
def tw15526448072615860104 := 0
def tw7722213861687895562 := 0
def tw13593265167630280251 := 0
def tw8725196771737215397 := 0
def tw15485334626940883533 := 0
def tw15111598065460159617 := 0
def tw10962076373873874055 := 0
def tw9502247840843729135 := 0
def tw12765608329326584887 := 0
def tw14311271038812825326 := 0
def tw497223032234799970 := 0
def tw10931144685257066903 := 0
def tw9661602653213456510 := 0
def tw18113713256011430296 := 0
def tw15485340235628866782 := 0
def tw16546762788086594108 := 0
def tw12099404188780532804 := 0
def tw15427395606542938512 := 0
def tw8348896047468192795 := 0
def tw8843378422833404411 := 0
def tw756883838436267508 := 0
def tw4188834597668277252 := 0
def tw4528447369548073946 := 0
def tw9384094060876856338 := 0
def tw17007518484337392935 := 0
def tw14887653924969221633 := 0
def tw13103145186058086214 := 0
def tw10620324834907363121 := 0
def tw14011951329945602914 := 0
def tw14315204196351972662 := 0
def tw13140061080412494347 := 0
def tw16628358708626624143 := 0
def tw3337969406310259091 := 0
def tw2649015663063508205 := 0
def tw1610517594170406970 := 0
def tw17895126585738093629 := 0
def tw738778189856272848 := 0
def tw1765922161861739196 := 0
def tw14638413929009508703 := 0
def tw2040193613070969287 := 0
def tw11062150623179792973 := 0
def tw6601046076156265461 := 0
def tw11111290621975455168 := 0
def tw15793707447212012181 := 0
def tw8746134365222446749 := 0
def tw7266376416755409028 := 0
def tw7962654669168706907 := 0
def tw7854541769345891471 := 0
def tw10798944301242256225 := 0
def tw2850396573487281165 := 0
def tw1400065521222471638 := 0
def tw2432973944814881388 := 0
def tw1476052859651168667 := 0
def tw5971007769219204053 := 0
def tw8173602401168095509 := 0
def tw16886932243170740135 := 0
def tw10771697275706738406 := 0
def tw520726036504141356 := 0
def tw9901695718407599770 := 0
def tw17273159722232667934 := 0
def tw12959401544214102818 := 0
def tw8921541483978981539 := 0
def tw12043112580317808948 := 0
def tw14372606408360768503 := 0
def tw15069174092641409012 := 0
def tw4009323307130365558 := 0
def tw14247179406690861061 := 0
def tw12478975887406568721 := 0
def tw16389207466895600338 := 0
def tw3571226975840470623 := 0
def tw13906356406209731012 := 0
def tw14791422807369329588 := 0
def tw8830823733395046208 := 0
def tw671078332104994167 := 0
def tw10857027410416291664 := 0
def tw10031468433596186534 := 0
def tw696259386495466540 := 0
def tw11858605572973268158 := 0
def tw12960930185552437627 := 0
def tw11287126939149224365 := 0
def tw14512297364292149307 := 0
def tw979969633907537453 := 0
def tw10644462819052211741 := 0
def tw12621971182667587490 := 0
def tw16863814624358901078 := 0
def tw7576342463261474951 := 0
def tw2425226731900899719 := 0
def tw5748778173096614569 := 0
def tw5189893313710075788 := 0
def tw10887756337185803021 := 0
def tw14365116541333050584 := 0
def tw1299127545022802098 := 0
def tw3419693441895884152 := 0
def tw3073656229696036153 := 0
def tw492106844685206775 := 0
def tw6659717284632276179 := 0
def tw13728324084775738298 := 0
def tw14008742045125878246 := 0
def tw6763584124992720994 := 0
def tw7611857624245520693 := 0
def tw18125080148147003929 := 0
def tw13778461783013682971 := 0
def tw5728062895961121880 := 0
def tw10173264443572625040 := 0
def tw1100493738880528023 := 0
def tw4422857114421169570 := 0
def tw4543673192877586023 := 0
def tw8820407950897158662 := 0
def tw14718868525474546425 := 0
def tw16166269700735533203 := 0
def tw9577958868869014586 := 0
def tw4115314400367082946 := 0
def tw1546206387846408851 := 0
def tw9680622291172370891 := 0
def tw10759467396936247409 := 0
def tw5326001200351540923 := 0
def tw1200575186626308056 := 0
def tw7036743435645559767 := 0
def tw16094156303491009581 := 0
def tw1399117776688752005 := 0
def tw5313934492348563190 := 0
def tw9461595535817577406 := 0
def tw15413086752253736616 := 0
def tw11203796835738985336 := 0
def tw13802011731397224744 := 0
def tw4849401733280207871 := 0
def tw4706708579579752128 := 0
def tw11565839337512772876 := 0
def tw17694167460769274469 := 0
def tw15504320571366729510 := 0
def tw12951959922357000234 := 0
def tw15092149432242332758 := 0
def tw3150401057004190862 := 0
def tw388132249376314002 := 0
def tw13769445880278981389 := 0
def tw16798002337790362402 := 0
def tw15151714124879041177 := 0
def tw9609641058269791968 := 0
def tw11570267376747268958 := 0
def tw3163466763850726710 := 0
def tw964634217957477739 := 0
def tw17557874025202514906 := 0
def tw6563594135209083540 := 0
def tw1051861856434997168 := 0
def tw11159102990200721497 := 0
def tw4342972465710571088 := 0
def tw11772757660535968251 := 0
def tw1785187970354104359 := 0
def tw11293931912503130209 := 0
def tw8098975914044989106 := 0
def tw15119796268117941647 := 0
def tw10007958933796556632 := 0
def tw5788612635826212388 := 0
def tw8867546884587403792 := 0
def tw8757173692353703269 := 0
def tw13588245338905512891 := 0
def tw1528587129392144818 := 0
def tw2145887117496260753 := 0
def tw17273420262201779920 := 0
end PySem.W.Fast
set_option maxRecDepth 100000 in
set_option maxHeartbeats 0 in
theorem PySem.Challenge.cw_combstrip_k30_whole_line_holds : PySem.Challenge.rw_combstrip_k30_whole_line.Holds := by
  w_on; o_law; k_head; (case hw => w_witness2)
  k_fill
  refine K30.walk (l := PySem.Challenge.rw_combstrip_k30_whole_line) rfl rfl (fun w h Y => PySem.W.kIn_of Y) ?F
  case F =>
    intro w mg fa h KX G hmg
    refine' K30.all KX G hmg (L2.bn_mk KX G ?n0 ?n1 ?n2 ?n3 ?n4 ?n5 ?n6 ?n7 ?n8 ?n9 ?n10 ?n11 ?n12 ?n13 ?n14 ?n15 ?n16 ?n17 ?n18 ?n19 ?n20) ?v0 ?v1 ?v2 ?v3 ?v4 ?v5 ?zgt0 ?ztc0 ?r0 ?r1 ?r2 ?r3 ?r4 ?r5 ?r6 ?r7 ?r8 ?r9 ?r10 ?r11 ?r12 ?r13 ?r14 ?zrce ?zhc ?zini ?zbc ?m0 ?m1 ?m2 ?m3 ?m4 ?m5 ?d0 ?d1 ?d2 ?d3 ?d4 ?d5 ?d6 ?d7 ?d8 ?d9 ?d10 ?d11 ?d12 ?d13 ?d14 ?d15 ?d16 ?d17 ?d18 ?d19 ?d20 ?d21 ?d22 ?d23 ?d24 ?d25 ?d26 ?d27 ?d28 ?d29 ?d30 ?d31 ?d32 ?d33 ?d34 ?d35 ?d36 ?d37 ?d38 ?d39 ?d40
    (case n0 => k_is)
    (case n1 => k_is)
    (case n2 => k_is)
    (case n3 => k_is)
    (case n4 => k_is)
    (case n5 => k_is)
    (case n6 => k_is)
    (case n7 => k_is)
    (case n8 => k_is)
    (case n9 => k_is)
    (case n10 => k_is)
    (case n11 => k_is)
    (case n12 => k_is)
    (case n13 => k_is)
    (case n14 => k_is)
    (case n15 => k_is)
    (case n16 => k_is)
    (case n17 => k_is)
    (case n18 => k_is)
    (case n19 => k_is)
    (case n20 => k_is)
    (case v0 => refine' L2.int_mk KX G ?a; (case a => k_is))
    (case v1 => refine' L2.int_mk KX G ?a; (case a => k_is))
    (case v2 => refine' L2.int_mk KX G ?a; (case a => k_is))
    (case v3 => refine' L2.int_mk KX G ?a; (case a => k_is))
    (case v4 => refine' L2.int_mk KX G ?a; (case a => k_is))
    (case v5 => refine' L2.int_mk KX G ?a; (case a => k_is))
    (case zgt0 => refine' L2.ref_mk KX G ?a; (case a => k_is))
    (case ztc0 => kernel_rfl)
    (case r0 => refine' L2.ref_mk KX G ?a; (case a => k_is))
    (case r1 => refine' L2.ref_mk KX G ?a; (case a => k_is))
    (case r2 => refine' L2.ref_mk KX G ?a; (case a => k_is))
    (case r3 => refine' L2.ref_mk KX G ?a; (case a => k_is))
    (case r4 => refine' L2.ref_mk KX G ?a; (case a => k_is))
    (case r5 => refine' L2.ref_mk KX G ?a; (case a => k_is))
    (case r6 => refine' L2.ref_mk KX G ?a; (case a => k_is))
    (case r7 => refine' L2.ref_mk KX G ?a; (case a => k_is))
    (case r8 => refine' L2.ref_mk KX G ?a; (case a => k_is))
    (case r9 => refine' L2.ref_mk KX G ?a; (case a => k_is))
    (case r10 => refine' L2.ref_mk KX G ?a; (case a => k_is))
    (case r11 => refine' L2.ref_mk KX G ?a; (case a => k_is))
    (case r12 => refine' L2.ref_mk KX G ?a; (case a => k_is))
    (case r13 => refine' L2.ref_mk KX G ?a; (case a => k_is))
    (case r14 => refine' L2.ref_mk KX G ?a; (case a => k_is))
    (case zrce => refine' L2.ref_mk KX G ?a; (case a => k_is))
    (case zhc => kernel_rfl)
    (case zini => refine' L2.init_mk (L2.ref_mk KX G ?z) ?a ?l ?c ?k ?i ?k2 ?mk; (case z => k_is); (case a => k_is); (case l => k_is); (case c => k_is); (case k => k_is); (case i => k_is); (case k2 => k_is); (case mk => k_is))
    (case zbc => kernel_rfl)
    (case m0 => refine' L2.meth_mk ?a ?l ?c ?k ?i; (case a => k_is); (case l => k_is); (case c => k_is); (case k => k_is); (case i => k_is))
    (case m1 => refine' L2.meth_mk ?a ?l ?c ?k ?i; (case a => k_is); (case l => k_is); (case c => k_is); (case k => k_is); (case i => k_is))
    (case m2 => refine' L2.meth_mk ?a ?l ?c ?k ?i; (case a => k_is); (case l => k_is); (case c => k_is); (case k => k_is); (case i => k_is))
    (case m3 => refine' L2.meth_mk ?a ?l ?c ?k ?i; (case a => k_is); (case l => k_is); (case c => k_is); (case k => k_is); (case i => k_is))
    (case m4 => refine' L2.meth_mk ?a ?l ?c ?k ?i; (case a => k_is); (case l => k_is); (case c => k_is); (case k => k_is); (case i => k_is))
    (case m5 => refine' L2.meth_mk ?a ?l ?c ?k ?i; (case a => k_is); (case l => k_is); (case c => k_is); (case k => k_is); (case i => k_is))
    (case d0 => refine' L2.def_mk KX G ?a ?l ?c ?k; (case a => k_is); (case l => k_is); (case c => k_is); (case k => k_is))
    (case d1 => refine' L2.def_mk KX G ?a ?l ?c ?k; (case a => k_is); (case l => k_is); (case c => k_is); (case k => k_is))
    (case d2 => refine' L2.def_mk KX G ?a ?l ?c ?k; (case a => k_is); (case l => k_is); (case c => k_is); (case k => k_is))
    (case d3 => refine' L2.def_mk KX G ?a ?l ?c ?k; (case a => k_is); (case l => k_is); (case c => k_is); (case k => k_is))
    (case d4 => refine' L2.def_mk KX G ?a ?l ?c ?k; (case a => k_is); (case l => k_is); (case c => k_is); (case k => k_is))
    (case d5 => refine' L2.def_mk KX G ?a ?l ?c ?k; (case a => k_is); (case l => k_is); (case c => k_is); (case k => k_is))
    (case d6 => refine' L2.def_mk KX G ?a ?l ?c ?k; (case a => k_is); (case l => k_is); (case c => k_is); (case k => k_is))
    (case d7 => refine' L2.def_mk KX G ?a ?l ?c ?k; (case a => k_is); (case l => k_is); (case c => k_is); (case k => k_is))
    (case d8 => refine' L2.def_mk KX G ?a ?l ?c ?k; (case a => k_is); (case l => k_is); (case c => k_is); (case k => k_is))
    (case d9 => refine' L2.def_mk KX G ?a ?l ?c ?k; (case a => k_is); (case l => k_is); (case c => k_is); (case k => k_is))
    (case d10 => refine' L2.def_mk KX G ?a ?l ?c ?k; (case a => k_is); (case l => k_is); (case c => k_is); (case k => k_is))
    (case d11 => refine' L2.def_mk KX G ?a ?l ?c ?k; (case a => k_is); (case l => k_is); (case c => k_is); (case k => k_is))
    (case d12 => refine' L2.def_mk KX G ?a ?l ?c ?k; (case a => k_is); (case l => k_is); (case c => k_is); (case k => k_is))
    (case d13 => refine' L2.def_mk KX G ?a ?l ?c ?k; (case a => k_is); (case l => k_is); (case c => k_is); (case k => k_is))
    (case d14 => refine' L2.def_mk KX G ?a ?l ?c ?k; (case a => k_is); (case l => k_is); (case c => k_is); (case k => k_is))
    (case d15 => refine' L2.def_mk KX G ?a ?l ?c ?k; (case a => k_is); (case l => k_is); (case c => k_is); (case k => k_is))
    (case d16 => refine' L2.def_mk KX G ?a ?l ?c ?k; (case a => k_is); (case l => k_is); (case c => k_is); (case k => k_is))
    (case d17 => refine' L2.def_mk KX G ?a ?l ?c ?k; (case a => k_is); (case l => k_is); (case c => k_is); (case k => k_is))
    (case d18 => refine' L2.def_mk KX G ?a ?l ?c ?k; (case a => k_is); (case l => k_is); (case c => k_is); (case k => k_is))
    (case d19 => refine' L2.def_mk KX G ?a ?l ?c ?k; (case a => k_is); (case l => k_is); (case c => k_is); (case k => k_is))
    (case d20 => refine' L2.def_mk KX G ?a ?l ?c ?k; (case a => k_is); (case l => k_is); (case c => k_is); (case k => k_is))
    (case d21 => refine' L2.def_mk KX G ?a ?l ?c ?k; (case a => k_is); (case l => k_is); (case c => k_is); (case k => k_is))
    (case d22 => refine' L2.def_mk KX G ?a ?l ?c ?k; (case a => k_is); (case l => k_is); (case c => k_is); (case k => k_is))
    (case d23 => refine' L2.def_mk KX G ?a ?l ?c ?k; (case a => k_is); (case l => k_is); (case c => k_is); (case k => k_is))
    (case d24 => refine' L2.def_mk KX G ?a ?l ?c ?k; (case a => k_is); (case l => k_is); (case c => k_is); (case k => k_is))
    (case d25 => refine' L2.def_mk KX G ?a ?l ?c ?k; (case a => k_is); (case l => k_is); (case c => k_is); (case k => k_is))
    (case d26 => refine' L2.def_mk KX G ?a ?l ?c ?k; (case a => k_is); (case l => k_is); (case c => k_is); (case k => k_is))
    (case d27 => refine' L2.def_mk KX G ?a ?l ?c ?k; (case a => k_is); (case l => k_is); (case c => k_is); (case k => k_is))
    (case d28 => refine' L2.def_mk KX G ?a ?l ?c ?k; (case a => k_is); (case l => k_is); (case c => k_is); (case k => k_is))
    (case d29 => refine' L2.def_mk KX G ?a ?l ?c ?k; (case a => k_is); (case l => k_is); (case c => k_is); (case k => k_is))
    (case d30 => refine' L2.def_mk KX G ?a ?l ?c ?k; (case a => k_is); (case l => k_is); (case c => k_is); (case k => k_is))
    (case d31 => refine' L2.def_mk KX G ?a ?l ?c ?k; (case a => k_is); (case l => k_is); (case c => k_is); (case k => k_is))
    (case d32 => refine' L2.def_mk KX G ?a ?l ?c ?k; (case a => k_is); (case l => k_is); (case c => k_is); (case k => k_is))
    (case d33 => refine' L2.def_mk KX G ?a ?l ?c ?k; (case a => k_is); (case l => k_is); (case c => k_is); (case k => k_is))
    (case d34 => refine' L2.def_mk KX G ?a ?l ?c ?k; (case a => k_is); (case l => k_is); (case c => k_is); (case k => k_is))
    (case d35 => refine' L2.def_mk KX G ?a ?l ?c ?k; (case a => k_is); (case l => k_is); (case c => k_is); (case k => k_is))
    (case d36 => refine' L2.def_mk KX G ?a ?l ?c ?k; (case a => k_is); (case l => k_is); (case c => k_is); (case k => k_is))
    (case d37 => refine' L2.def_mk KX G ?a ?l ?c ?k; (case a => k_is); (case l => k_is); (case c => k_is); (case k => k_is))
    (case d38 => refine' L2.def_mk KX G ?a ?l ?c ?k; (case a => k_is); (case l => k_is); (case c => k_is); (case k => k_is))
    (case d39 => refine' L2.def_mk KX G ?a ?l ?c ?k; (case a => k_is); (case l => k_is); (case c => k_is); (case k => k_is))
    (case d40 => refine' L2.def_mk KX G ?a ?l ?c ?k; (case a => k_is); (case l => k_is); (case c => k_is); (case k => k_is))

