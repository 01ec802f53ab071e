import PyProof.Rows.All
import Wide.All
import OpenK.AllK
import Wide.FinOn
import Lean
import PyProof.EqAt
import PyProof.EqKinds
import PyProof.TupleCall
import PySem.Challenge.RW_combstrip_k08_deeds_bound
set_option Elab.async false
set_option linter.all false
set_option maxRecDepth 100000
/-! THE HAND LAYER, for ints, bools, texts, own classes, DICTS (int and text keys), calls, loops. Paste it whole ahead of your own text; what your proof does not reach may be deleted. -/
namespace L2
open PySem PySem.Spec PyProof.Rows

/-- a key: an int or a str -/
abbrev Key := Sum Int Str
def keyIs : Key → Value → Bool
  | .inl k, v => Value.isInt k v
  | .inr x, v => Value.isStrOf x v
def keyH (w : World) : Key → Int
  | .inl k => hashInt k
  | .inr x => hashStr w x
theorem keyIs_shape : ∀ {k : Key} {v : Value}, keyIs k v = true → (∃ i t, k = Sum.inl i ∧ v = Value.int i t) ∨ (∃ x t, k = Sum.inr x ∧ v = Value.str x t)
  | .inl i, v, h => by
    obtain ⟨t, e⟩ := Value.isInt_shape (k := i) (v := v) h
    exact .inl ⟨i, t, rfl, e⟩
  | .inr x, v, h => by
    obtain ⟨t, e⟩ := Value.isStrOf_shape (x := x) (v := v) h
    exact .inr ⟨x, t, rfl, e⟩
theorem keyIs_int (i : Int) (t : Tok) : keyIs (.inl i) (.int i t) = true := by simp [keyIs, Value.isInt]
theorem keyIs_str (x : Str) (t : Tok) : keyIs (.inr x) (.str x t) = true := by simp [keyIs, Value.isStrOf]
theorem key_ll (a b : Int) : decide ((Sum.inl a : Key) = Sum.inl b) = (a == b) := by
  by_cases e : a = b
  · subst e; simp
  · have h : ¬ (Sum.inl a : Key) = Sum.inl b := fun q => e (Sum.inl.inj q)
    rw [decide_eq_false h]
    exact (beq_eq_false_iff_ne.mpr e).symm
theorem key_rr (a b : Str) : decide ((Sum.inr a : Key) = Sum.inr b) = decide (a = b) := by
  by_cases e : a = b
  · subst e; simp
  · have h : ¬ (Sum.inr a : Key) = Sum.inr b := fun q => e (Sum.inr.inj q)
    rw [decide_eq_false h, decide_eq_false e]
theorem key_lr (a : Int) (b : Str) : decide ((Sum.inl a : Key) = Sum.inr b) = false := decide_eq_false (fun q => nomatch q)
theorem key_rl (a : Str) (b : Int) : decide ((Sum.inr a : Key) = Sum.inl b) = false := decide_eq_false (fun q => nomatch q)

def mixKind (prog : Program) (w : World) : PySem.KeyKind prog w Key where
  is := keyIs
  hash := keyH w
  inj := fun v a b ha hb => by
    rcases keyIs_shape ha with ⟨i, t, rfl, rfl⟩ | ⟨x, t, rfl, rfl⟩
    · rcases keyIs_shape hb with ⟨j, u, rfl, e⟩ | ⟨y, u, rfl, e⟩
      · injection e with e1 _; rw [e1]
      · exact nomatch e
    · rcases keyIs_shape hb with ⟨j, u, rfl, e⟩ | ⟨y, u, rfl, e⟩
      · exact nomatch e
      · injection e with e1 _; rw [e1]
  byValue := fun k v h => by
    rcases keyIs_shape h with ⟨i, t, rfl, rfl⟩ | ⟨x, t, rfl, rfl⟩ <;> rfl
  pyHash := fun hv h => by
    rcases keyIs_shape hv with ⟨i, t, rfl, rfl⟩ | ⟨x, t, rfl, rfl⟩
    · exact wpAny_pyHash_int h
    · exact wpAny_pyHash_str h
  eqBool := fun hu hv h => by
    rcases keyIs_shape hu with ⟨i, t, rfl, rfl⟩ | ⟨x, t, rfl, rfl⟩
    · rcases keyIs_shape hv with ⟨j, u, rfl, rfl⟩ | ⟨y, u, rfl, rfl⟩
      · rw [key_ll] at h; exact wpAny_eqBool_int h
      · rw [key_lr] at h; exact SeqAt.EqAt.int_str i t y u _ _ _ _ h
    · rcases keyIs_shape hv with ⟨j, u, rfl, rfl⟩ | ⟨y, u, rfl, rfl⟩
      · rw [key_rl] at h; exact SeqAt.EqAt.str_int x t j u _ _ _ _ h
      · rw [key_rr] at h; exact wpAny_eqBool_str h
  «strs» := fun k x t v h => by
    rcases keyIs_shape h with ⟨i, u, rfl, e⟩ | ⟨y, u, rfl, e⟩
    · exact nomatch e
    · injection e with e1 _
      subst e1
      cases v <;> rfl

theorem mixKind_int (prog : Program) (w : World) (i : Int) (t : Tok) : (mixKind prog w).is (.inl i) (.int i t) = true := keyIs_int i t
theorem mixKind_str (prog : Program) (w : World) (x : Str) (t : Tok) : (mixKind prog w).is (.inr x) (.str x t) = true := keyIs_str x t
end L2

namespace L2
open PySem PySem.Spec PyProof.Rows

/-- a value, without the heap -/
inductive V where
  | non | bl (b : Bool) | int (i : Int) | str (x : Str) | byt (b : Array UInt8) | flt (b : UInt64) | ref (a : Addr) | ty (n : String)
  deriving DecidableEq

def RelV : V → Value → Prop
  | .non, u => u = Value.none
  | .bl b, u => u = Value.bool b
  | .int i, u => ∃ t, u = Value.int i t
  | .str x, u => ∃ t, u = Value.str x t
  | .byt b, u => ∃ t, u = Value.bytes b t
  | .flt b, u => ∃ t, u = Value.float b t
  | .ref a, u => u = Value.ref a
  | .ty n, u => u = Value.type n

abbrev Vals : List V → List Value → Prop := Paired RelV
theorem Vals.length {xs : List V} {us : List Value} (r : Vals xs us) : xs.length = us.length := Paired.length r
theorem Vals.get : ∀ {xs : List V} {us : List Value} {i : Nat} {x : V}, Vals xs us → xs[i]? = some x → ∃ u, us[i]? = some u ∧ RelV x u
  | _, _, _, _, .nil, e => by simp at e
  | _, _, 0, _, .cons r _, e => by simp at e; subst e; exact ⟨_, rfl, r⟩
  | _, _, i + 1, x, .cons _ t, e => by
    obtain ⟨u, h1, h2⟩ := Vals.get (i := i) (x := x) t (by simpa using e)
    exact ⟨u, by simpa using h1, h2⟩
theorem Vals.set {x : V} {u : Value} (r : RelV x u) : ∀ {xs : List V} {us : List Value} (i : Nat), Vals xs us → Vals (xs.set i x) (us.set i u)
  | _, _, _, .nil => .nil
  | _, _, 0, .cons _ t => .cons r t
  | _, _, i + 1, .cons q t => .cons q (Vals.set r i t)
theorem Vals.append : ∀ {xs ys : List V} {us ws : List Value}, Vals xs us → Vals ys ws → Vals (xs ++ ys) (us ++ ws)
  | _, _, _, _, .nil, s => s
  | _, _, _, _, .cons r t, s => .cons r (Vals.append t s)
theorem Vals.take : ∀ {xs : List V} {us : List Value} (n : Nat), Vals xs us → Vals (xs.take n) (us.take n)
  | _, _, 0, _ => .nil
  | _, _, _ + 1, .nil => .nil
  | _, _, n + 1, .cons r t => .cons r (Vals.take n t)
theorem Vals.drop : ∀ {xs : List V} {us : List Value} (n : Nat), Vals xs us → Vals (xs.drop n) (us.drop n)
  | _, _, 0, r => r
  | _, _, _ + 1, .nil => .nil
  | _, _, n + 1, .cons _ t => Vals.drop n t
theorem Vals.none_of : ∀ {xs : List V} {us : List Value} {i : Nat}, Vals xs us → xs[i]? = none → us[i]? = none := fun {xs us i} r e => by
  have h1 := r.length
  have h2 : xs.length ≤ i := List.getElem?_eq_none_iff.mp e
  exact List.getElem?_eq_none_iff.mpr (by omega)

def RelO : Option V → Option Value → Prop
  | some v, some u => RelV v u
  | none, none => True
  | _, _ => False
def KV {κ : Type} : List (κ × V) → List (κ × Value) → Prop := Paired fun (p : κ × V) (q : κ × Value) => p.1 = q.1 ∧ RelV p.2 q.2

/-- a key of a dict (00_mix): an int or a text -/
def kV : Key → V
  | .inl i => .int i
  | .inr x => .str x

/-- what stands at a tracked address -/
inductive HO where
  /-- a list -/
  | lst (xs : List V)
  /-- a tuple (never changes) -/
  | tup (xs : List V)
  /-- a dict whose keys are ints and texts; one whose keys are tuples of ints and texts (the empty one is both) -/
  | dK (kvs : List (Key × V)) | dT (kvs : List (List Key × V))
  /-- a set of ints: its members, its size -/
  | set (S : Int → Bool) (n : Nat)
  /-- an instance of the class at C, its dict at dx, its attributes -/
  | ins (C dx : Addr) (fs : List (Str × V))
  /-- the dict of the instance at x -/
  | own (x : Addr)
  /-- the dict of an exception -/
  | xd (fs : List (Str × V))
  /-- a bound method, f of x -/
  | met (f x : Addr)
  /-- a range object lo, lo + 1, .. below hi -/
  | rng (lo hi : Int)
  /-- a thing that is known to the object (the script; a dict while a loop walks it): read, never written while it is so -/
  | frz (o : Obj) (u : HO)
  /-- a code object's table -/
  | tbl (ps : Array Value)
  /-- any other thing, by what is true of its one object (a def of one's own: SetO a S n := HO.ext fun h => ..) -/
  | ext (φ : Heap → Prop)

abbrev Hp := Addr → Option HO
def upd (H : Hp) (a : Addr) (o : HO) : Hp := fun b => if b = a then some o else H b
theorem upd_same {H : Hp} {a : Addr} {o : HO} : upd H a o a = some o := by unfold upd; rw [if_pos rfl]
theorem upd_ne {H : Hp} {a b : Addr} {o : HO} (h : b ≠ a) : upd H a o b = H b := by unfold upd; rw [if_neg h]
theorem upd_upd {H : Hp} {a : Addr} {o u : HO} : upd (upd H a o) a u = upd H a u := by
  funext b; unfold upd; split <;> rfl
/-- two objects of different content stand apart -/
theorem ne_of {H : Hp} {a b : Addr} {o u : HO} (h : H a = some o) (h' : H b = some u) (d : o ≠ u) : a ≠ b := by
  intro e; subst e; rw [h] at h'; exact d (Option.some.inj h')
theorem ne_of_none {H : Hp} {a b : Addr} {o : HO} (h : H a = some o) (h' : H b = none) : a ≠ b := by
  intro e; subst e; rw [h] at h'; cases h'

section
variable (P : Program) (w : World)
def ObjOk (H : Hp) (h : Heap) (a : Addr) : HO → Prop
  | .lst xs => xs.length ≤ sizeLine ∧ ∃ (its : List Value) (n : Nat), Vals xs its ∧ h.get? a = some { cls := .type "list", data := .seq its.toArray n }
  | .tup xs => xs.length ≤ sizeLine ∧ ∃ its : List Value, Vals xs its ∧ IsTup h a its.toArray
  | .dK kvs => kvs.length ≤ sizeLine ∧ (a == sysModules) = false ∧ ∃ vs, KV kvs vs ∧ h.DictOf (mixKind P w) a vs
  | .dT kvs => kvs.length ≤ sizeLine ∧ (a == sysModules) = false ∧ ∃ xs : List (List Key × Addr × Value),
      Paired (fun (p : List Key × V) (q : List Key × Addr × Value) => p.1 = q.1 ∧ H q.2.1 = some (.tup (p.1.map kV)) ∧ RelV p.2 q.2.2) kvs xs ∧
      ∃ o es ep, h.get? a = some o ∧ o.ExactDict ∧ o.data = .dict es ep ∧ es.toList = xs.map (entryOfKey (tupleKind (mixKind P w))) ∧ (xs.map (·.1)).Nodup
  | .set S n => h.SetOf (intKind P w) a S n
  | .ins C dx fs => H dx = some (.own a) ∧ fs.length ≤ 1000 ∧ dx ≠ a ∧ h.get? a = some (PySem.W.instObj C dx) ∧
      ∃ mA, h.Ns1 dx mA ∧ (∀ f, RelO (fs.lookup f) (mA f)) ∧ PySem.Within mA (fs.map (·.1))
  | .own _ => ∃ o, h.get? a = some o
  | .xd fs => ∃ mA, h.Ns1 a mA ∧ ∀ f, RelO (fs.lookup f) (mA f)
  | .rng lo hi => ∃ t u v, h.get? a = some { cls := .type "range", data := .fields #[.int lo t, .int hi u, .int 1 v] }
  | .frz o u => h.get? a = some o ∧ ObjOk H h a u
  | .tbl ps => h.get? a = some { cls := .none, data := .fields ps }
  | .met f x => h.get? a = some (PySem.W.methodObj (.ref f) (.ref x))
  | .ext φ => φ h ∧ (∃ o, h.get? a = some o) ∧ ∀ h1 h2 : Heap, φ h1 → (∀ o, h1.get? a = some o → h2.get? a = some o) → φ h2
/-- the abstract heap is held -/
def HOk (H : Hp) (h : Heap) : Prop := ∀ a o, H a = some o → ObjOk P w H h a o
end

section
variable {P : Program} {w : World} {H H' : Hp} {h h' : Heap} {a : Addr} {o : HO}
theorem ObjOk.lt (x : ObjOk P w H h a o) : a < h.objs.size := by
  cases o with
  | lst xs => obtain ⟨_, _, _, _, e⟩ := x; exact Heap.lt_size e
  | tup xs => obtain ⟨_, _, _, p⟩ := x; exact p.lt
  | dK kvs => obtain ⟨_, _, _, _, o, _, _, e, _⟩ := x; exact Heap.lt_size e
  | dT kvs => obtain ⟨_, _, _, _, o, _, _, e, _⟩ := x; exact Heap.lt_size e
  | set S n => obtain ⟨o, _, _, _, e, _⟩ := x; exact Heap.lt_size e
  | ins C dx fs => obtain ⟨_, _, _, e, _⟩ := x; exact Heap.lt_size e
  | own y => obtain ⟨_, e⟩ := x; exact Heap.lt_size e
  | xd fs => obtain ⟨_, ⟨_, _, _, e, _⟩, _⟩ := x; exact Heap.lt_size e
  | rng lo hi => obtain ⟨_, _, _, e⟩ := x; exact Heap.lt_size e
  | frz ob u => obtain ⟨e, _⟩ := x; exact Heap.lt_size e
  | tbl ps => exact Heap.lt_size (show h.get? a = some _ from x)
  | met f y => exact Heap.lt_size (show h.get? a = some _ from x)
  | ext φ => obtain ⟨_, ⟨_, e⟩, _⟩ := x; exact Heap.lt_size e
theorem Paired.mapP {α β : Type} {F G : α → β → Prop} : ∀ {l₁ : List α} {l₂ : List β}, Paired F l₁ l₂ → (∀ a b, F a b → G a b) → Paired G l₁ l₂
  | _, _, .nil, _ => .nil
  | _, _, .cons r t, f => .cons (f _ _ r) (Paired.mapP t f)
/-- what an object's description leans on: its own object, its own dict, the tuples -/
theorem ObjOk.stay (x : ObjOk P w H h a o) (k : ∀ b u, (b = a ∨ H b = some (.own a)) → h.get? b = some u → h'.get? b = some u)
    (ho : ∀ b, H b = some (.own a) → H' b = some (.own a)) (ht : ∀ b xs, H b = some (.tup xs) → H' b = some (.tup xs)) : ObjOk P w H' h' a o := by
  induction o with
  | lst xs => obtain ⟨z, its, n, r, e⟩ := x; exact ⟨z, its, n, r, k _ _ (.inl rfl) e⟩
  | tup xs => obtain ⟨z, its, r, ob, e, c⟩ := x; exact ⟨z, its, r, ob, k _ _ (.inl rfl) e, c⟩
  | dK kvs => obtain ⟨z, y, vs, r, ob, es, ep, e, c⟩ := x; exact ⟨z, y, vs, r, ob, es, ep, k _ _ (.inl rfl) e, c⟩
  | dT kvs =>
    obtain ⟨z, y, xs, r, ob, es, ep, e, c⟩ := x
    exact ⟨z, y, xs, Paired.mapP r fun p q z => ⟨z.1, ht _ _ z.2.1, z.2.2⟩, ob, es, ep, k _ _ (.inl rfl) e, c⟩
  | set S n => obtain ⟨ob, es, ep, t, e, c⟩ := x; exact ⟨ob, es, ep, t, k _ _ (.inl rfl) e, c⟩
  | ins C dx fs =>
    obtain ⟨d, z, ne, e, mA, ⟨od, es, ep, e2, c⟩, r⟩ := x
    exact ⟨ho _ d, z, ne, k _ _ (.inl rfl) e, mA, ⟨od, es, ep, k _ _ (.inr d) e2, c⟩, r⟩
  | own y => obtain ⟨ob, e⟩ := x; exact ⟨ob, k _ _ (.inl rfl) e⟩
  | xd fs => obtain ⟨mA, ⟨od, es, ep, e, c⟩, r⟩ := x; exact ⟨mA, ⟨od, es, ep, k _ _ (.inl rfl) e, c⟩, r⟩
  | rng lo hi => obtain ⟨t, u, v, e⟩ := x; exact ⟨t, u, v, k _ _ (.inl rfl) e⟩
  | frz ob u ih => obtain ⟨e, q⟩ := x; exact ⟨k _ _ (.inl rfl) e, ih q⟩
  | tbl ps =>
    have e : h.get? a = some { cls := .none, data := .fields ps } := x
    show h'.get? a = some { cls := .none, data := .fields ps }
    exact k a _ (.inl rfl) e
  | met f y =>
    have e : h.get? a = some (PySem.W.methodObj (.ref f) (.ref y)) := x
    show h'.get? a = some (PySem.W.methodObj (.ref f) (.ref y))
    exact k a _ (.inl rfl) e
  | ext φ => obtain ⟨p, ⟨o, e⟩, st⟩ := x; exact ⟨st _ _ p fun o q => k _ _ (.inl rfl) q, ⟨o, k _ _ (.inl rfl) e⟩, st⟩
theorem HOk.lt (x : HOk P w H h) (e : H a = some o) : a < h.objs.size := (x a o e).lt
theorem HOk.fresh (x : HOk P w H h) (e : h.objs.size ≤ a) : H a = none := by
  cases q : H a with
  | none => rfl
  | some u => exact absurd (Nat.lt_of_lt_of_le (x.lt q) e) (Nat.lt_irrefl _)
/-- every object of the heap is kept -/
theorem HOk.kept (x : HOk P w H h) (k : ∀ b u, h.get? b = some u → h'.get? b = some u) : HOk P w H h' := fun a o e =>
  (x a o e).stay (fun b u _ q => k b u q) (fun _ q => q) fun _ _ q => q
/-- a new object is laid and tracked -/
theorem HOk.laid (x : HOk P w H h) (k : ∀ b u, h.get? b = some u → h'.get? b = some u) (hp : h.objs.size ≤ a) (new : ObjOk P w (upd H a o) h' a o) : HOk P w (upd H a o) h' := fun b u e => by
  have hn := x.fresh hp
  by_cases hb : b = a
  · subst hb; rw [upd_same] at e; cases e; exact new
  · rw [upd_ne hb] at e
    exact (x b u e).stay (fun c v _ q => k c v q) (fun c q => by rw [upd_ne (ne_of_none q hn)]; exact q) fun c xs q => by rw [upd_ne (ne_of_none q hn)]; exact q
end

/-- what may be read as u: it is u, or a known u -/
def Rd (H : Hp) (a : Addr) (u : HO) : Prop := H a = some u ∨ ∃ o, H a = some (.frz o u)
theorem Rd.of {H : Hp} {a : Addr} {u : HO} (h : H a = some u) : Rd H a u := .inl h
theorem Rd.ok {P : Program} {w : World} {H : Hp} {h : Heap} {a : Addr} {u : HO} (r : Rd H a u) (x : HOk P w H h) : ObjOk P w H h a u := by
  rcases r with r | ⟨o, r⟩
  · exact x a u r
  · obtain ⟨_, q⟩ := x a _ r
    exact q
/-- what may be written -/
def Mut : Option HO → Prop
  | some (.lst _) => True
  | some (.dK _) => True
  | some (.dT _) => True
  | some (.set _ _) => True
  | some (.ins _ _ _) => True
  | some (.ext _) => True
  | _ => False
section
variable {P : Program} {w : World} {H : Hp} {h h' : Heap} {x e : Addr} {o' : HO}
/-- the object at e is changed: x itself, or the dict of the instance x -/
theorem HOk.write (ok : HOk P w H h) (mu : Mut (H x)) (he : e = x ∨ H e = some (.own x)) (k : ∀ b u, b ≠ e → h.get? b = some u → h'.get? b = some u) (heo : ∃ u, h'.get? e = some u)
    (new : ObjOk P w (upd H x o') h' x o') : HOk P w (upd H x o') h' := fun b u q => by
  have nown : ∀ c y, H c = some (.own y) → c ≠ x := fun c y r z => by subst z; rw [r] at mu; exact mu
  have ntup : ∀ c xs, H c = some (.tup xs) → c ≠ x := fun c xs r z => by subst z; rw [r] at mu; exact mu
  by_cases hb : b = x
  · subst hb; rw [upd_same] at q; cases q; exact new
  · rw [upd_ne hb] at q
    by_cases hbe : b = e
    · have q' : H b = some (.own x) := by
        rcases he with z | z
        · exact absurd (hbe.trans z) hb
        · rw [hbe]; exact z
      rw [q] at q'; cases q'
      obtain ⟨v, hv⟩ := heo
      exact ⟨v, by rw [hbe]; exact hv⟩
    · refine (ok b u q).stay (fun c v hc r => k c v ?_ r) (fun c r => by rw [upd_ne (nown c b r)]; exact r) fun c xs r => by rw [upd_ne (ntup c xs r)]; exact r
      rcases hc with rfl | hc
      · exact hbe
      · rintro rfl
        rcases he with z | z
        · exact nown c b hc z
        · rw [hc] at z; cases z; exact hb rfl
end

/-! ### kept unless tracked; of the frames at fs (the callers') the slots may change (an exception that passes writes there); of the records at ex (iterators) nothing is said -/
structure Un (fs ex : List Addr) (H H' : Hp) (h h' : Heap) : Prop where
  keep : ∀ b o, h.get? b = some o → H b = none → b ∉ fs → b ∉ ex → h'.get? b = some o
  slot : ∀ b o, h.get? b = some o → H b = none → b ∈ fs → b ∉ ex → ∃ sl, h'.get? b = some { o with slots := sl }
  free : ∀ b o, h.get? b = some o → H b = none → b ∉ ex → H' b = none
  there : ∀ b o, h.get? b = some o → b ∉ ex → ∃ o', h'.get? b = some o'
  tups : ∀ b xs, H b = some (.tup xs) → H' b = some (.tup xs)
  frzs : ∀ b o u, H b = some (.frz o u) → H' b = some (.frz o u)
  tbls : ∀ b ps, H b = some (.tbl ps) → ∃ more, H' b = some (.tbl (ps ++ more))
section
variable {fs fs' ex ex' : List Addr} {H H1 H2 : Hp} {h h1 h2 h' : Heap} {a x e : Addr} {o : HO}
theorem Un.any (u : Un fs ex H H1 h h1) {b : Addr} {ob : Obj} (q : h.get? b = some ob) (n : H b = none) (hx : b ∉ ex) : ∃ sl, h1.get? b = some { ob with slots := sl } := by
  by_cases hb : b ∈ fs
  · exact u.slot b ob q n hb hx
  · exact ⟨ob.slots, u.keep b ob q n hb hx⟩
theorem Un.trans (a : Un fs ex H H1 h h1) (b : Un fs ex H1 H2 h1 h2) : Un fs ex H H2 h h2 where
  keep := fun c ob q n hc hx => b.keep c ob (a.keep c ob q n hc hx) (a.free c ob q n hx) hc hx
  slot := fun c ob q n hc hx => by
    obtain ⟨sl, e1⟩ := a.slot c ob q n hc hx
    obtain ⟨sl', e2⟩ := b.slot c _ e1 (a.free c ob q n hx) hc hx
    exact ⟨sl', e2⟩
  free := fun c ob q n hx => by
    obtain ⟨o', e1⟩ := a.there c ob q hx
    exact b.free c o' e1 (a.free c ob q n hx) hx
  there := fun c ob q hx => by
    obtain ⟨o', e1⟩ := a.there c ob q hx
    exact b.there c o' e1 hx
  tups := fun c xs q => b.tups c xs (a.tups c xs q)
  frzs := fun c ob xs q => b.frzs c ob xs (a.frzs c ob xs q)
  tbls := fun c ps q => by
    obtain ⟨m1, e1⟩ := a.tbls c ps q
    obtain ⟨m2, e2⟩ := b.tbls c _ e1
    exact ⟨m1 ++ m2, by rw [e2, Array.append_assoc]⟩
theorem Un.kept (k : ∀ b u, h.get? b = some u → h'.get? b = some u) : Un fs ex H H h h' :=
  ⟨fun b ob q _ _ _ => k b ob q, fun b ob q _ _ _ => ⟨ob.slots, k b ob q⟩, fun _ _ _ n _ => n, fun b ob q _ => ⟨ob, k b ob q⟩, fun _ _ q => q, fun _ _ _ q => q, fun _ ps q => ⟨#[], by rw [q]; simp⟩⟩
theorem Un.refl : Un fs ex H H h h := Un.kept fun _ _ q => q
theorem Un.laid (k : ∀ b u, h.get? b = some u → h'.get? b = some u) (hp : h.objs.size ≤ a) (hn : H a = none) : Un fs ex H (upd H a o) h h' where
  keep := fun b u q _ _ _ => k b u q
  slot := fun b u q _ _ _ => ⟨u.slots, k b u q⟩
  free := fun b u q n _ => by rw [upd_ne (Nat.ne_of_lt (Nat.lt_of_lt_of_le (Heap.lt_size q) hp))]; exact n
  there := fun b u q _ => ⟨u, k b u q⟩
  tups := fun b xs q => by rw [upd_ne (ne_of_none q hn)]; exact q
  frzs := fun b u xs q => by rw [upd_ne (ne_of_none q hn)]; exact q
  tbls := fun b ps q => ⟨#[], by rw [upd_ne (ne_of_none q hn), q]; simp⟩
theorem Un.write (mu : Mut (H x)) (he : e = x ∨ H e = some (.own x)) (k : ∀ b u, b ≠ e → h.get? b = some u → h'.get? b = some u) (heo : ∃ u, h'.get? e = some u) : Un fs ex H (upd H x o) h h' := by
  have hx : ∀ b, H b = none → b ≠ x := fun b n z => by subst z; rw [n] at mu; exact mu
  have hb : ∀ b, H b = none → b ≠ e := fun b n z => by
    subst z
    rcases he with r | r
    · exact hx b n r
    · rw [n] at r; cases r
  have hm : ∀ b u, H b = some u → ¬ Mut (some u) → b ≠ x := fun b u q nm z => by subst z; rw [q] at mu; exact nm mu
  refine ⟨fun b u q n _ _ => k b u (hb b n) q, fun b u q n _ _ => ⟨u.slots, k b u (hb b n) q⟩, fun b u q n _ => by rw [upd_ne (hx b n)]; exact n, fun b u q _ => ?_,
    fun b xs q => by rw [upd_ne (hm b _ q fun z => z)]; exact q, fun b u xs q => by rw [upd_ne (hm b _ q fun z => z)]; exact q, fun b ps q => ⟨#[], by rw [upd_ne (hm b _ q fun z => z), q]; simp⟩⟩
  by_cases hbe : b = e
  · subst hbe; exact heo
  · exact ⟨u, k b u hbe q⟩
theorem Un.mono (u : Un fs ex H H1 h h1) (hs : ∀ b ∈ fs, b ∈ fs') (hx : ∀ b ∈ ex, b ∈ ex') : Un fs' ex' H H1 h h1 :=
  ⟨fun b ob q n hb he => u.keep b ob q n (fun z => hb (hs b z)) fun z => he (hx b z), fun _ _ q n _ he => u.any q n fun z => he (hx _ z), fun b ob q n he => u.free b ob q n fun z => he (hx b z), fun b ob q he => u.there b ob q fun z => he (hx b z), u.tups, u.frzs, u.tbls⟩
end

/-! ### the heap without what is tracked -/
def trk (h : Heap) (H : Hp) : List Addr := (List.range h.objs.size).filter fun a => (H a).isSome
def hidT (h : Heap) (H : Hp) : Heap := PySem.W.hideAll h (trk h H)
theorem hidT_size (h : Heap) (H : Hp) : (hidT h H).objs.size = h.objs.size := PySem.W.hideAll_size _ _
theorem hidT_get {h : Heap} {H : Hp} {b : Addr} {o : Obj} (e : h.get? b = some o) (n : H b = none) : (hidT h H).get? b = some o :=
  PySem.W.hideAll_get _ e fun hm => by
    have q : (H b).isSome = true := (List.mem_filter.mp hm).2
    rw [n] at q; simp at q
theorem of_hidT {h : Heap} {H : Hp} {b : Addr} {o : Obj} (e : (hidT h H).get? b = some o) : h.get? b = some o ∧ H b = none := by
  have e' : h.get? b = some o := PySem.W.of_hideAll (trk h H) e
  refine ⟨e', ?_⟩
  cases q : H b with
  | none => rfl
  | some x =>
    have hm : b ∈ trk h H := List.mem_filter.mpr ⟨List.mem_range.mpr (Heap.lt_size e'), by simp [q]⟩
    have z : (hidT h H).get? b = none := PySem.W.hideAll_none (trk h H) hm
    rw [z] at e; cases e

/-! ### OpenK's ledger, filled with every new object but one -/
def allNews (g h : Heap) (L : Addr) : List (Addr × Obj) := (List.range h.objs.size).filterMap fun a => if a = L ∨ (g.get? a).isSome = true then none else (h.get? a).map fun o => (a, o)
def rest (g h : Heap) (L d : Addr) : List (Addr × Obj) := (allNews g h L).filter fun p => decide (p.1 ≠ d)
end L2

namespace L2
open PySem PySem.Spec PyProof.Rows

/-- the module's facts, over the base: the heap at the law's entry without what is tracked there -/
structure Mod (K : PySem.W.Frag) (mg : Str → Option Value) (base : Heap) : Prop where
  kin : K.In base
  glob : base.Ns mainGlobals mg
  blt : ∃ mb, base.Ns builtinsNs mb ∧ ∀ x : Str, x ≠ "__name__" → mb x = bootBuiltins x
  nolimit : base.NoLimit

/-- the context: a def's body (or a comprehension's block) running. base: fixed through the whole law; s₀, H₀: the entry; outer: the frames whose slots others may change (a def's callers); stack: all frames that run;
   ex: iterators that were made ahead of the entry and are walked here (a comprehension's); fn: the names whose cells were made at the entry (a def: all; a comprehension's block: its own); calm: not within an except suite; pn: pins that every state bears; xe: what is wanted of an exception that leaves the code -/
structure Cx where
  prog : Program
  w : World
  K : PySem.W.Frag
  mg : Str → Option Value
  base : Heap
  A : Around
  N : List Str
  s₀ : Shared
  H₀ : Hp
  env : Env
  outer : List Env
  stack : List Env
  ex : List Addr
  fn : Str → Bool
  calm : Bool
  pn : List (Addr × Obj)
  xe : Value → Shared → Prop
/-- the callers' frames -/
def frs (l : List Env) : List Addr := l.filterMap (·.frame)
abbrev Cx.fs (X : Cx) : List Addr := frs X.outer

def Vis (sc : Scope) (x : Str) : Prop := sc.names.lookup x = some .local ∨ sc.names.lookup x = some .cell ∨ sc.names.lookup x = some .free
def Loc (sc : Scope) (x : Str) : Prop := sc.names.lookup x = some .local ∨ sc.names.lookup x = some .cell
def Look (env : Env) (h : Heap) (m : Str → Option Value) (x : Str) (u : Value) : Prop :=
  (env.kindOf x = some .local ∧ m x = some u) ∨ ((env.kindOf x = some .cell ∨ env.kindOf x = some .free) ∧ ∃ c, env.cells.lookup x = some c ∧ h.IsCell c (some u))

structure Cx.Ok (X : Cx) : Prop where
  mod : Mod X.K X.mg X.base
  kind : X.env.scope.kind = .function
  glob : X.env.globals = mainGlobals
  blt : X.env.builtins = builtinsNs
  above : X.s₀.heap.objs.size ≤ X.env.locals
  inj : ∀ x y c, X.env.cells.lookup x = some c → X.env.cells.lookup y = some c → x = y
  has : ∀ x, (X.env.kindOf x = some .cell ∨ X.env.kindOf x = some .free) → ∃ c, X.env.cells.lookup x = some c
  cab : ∀ x c, X.fn x = true → X.env.cells.lookup x = some c → X.s₀.heap.objs.size ≤ c
  hd : X.calm = true → X.A.handled = none
  frames : X.A.frames = some X.stack
  stk : X.stack = X.outer ∨ (X.stack = X.env :: X.outer ∧ X.env.frame = some X.env.locals)
  exf : ∀ b ∈ X.ex, b ≠ X.env.locals ∧ ∀ x c, X.env.cells.lookup x = some c → c ≠ b
  bs : ∀ b o, X.base.get? b = some o → X.s₀.heap.get? b = some o ∧ X.H₀ b = none
  bsz : X.base.objs.size ≤ X.s₀.heap.objs.size
  noex : ∀ b o, X.base.get? b = some o → b ∉ X.ex
  exfs : ∀ b ∈ X.ex, b ∉ X.fs
  funs : X.s₀.heap.FunFrames X.base X.outer
  frf : ∀ b ∈ X.fs, X.H₀ b = none

structure Inv (X : Cx) (pins : List (Addr × Obj)) (σ : List (Option V)) (H : Hp) (s : Shared) : Prop where
  ok : X.Ok
  os : s.os = X.s₀.os
  bare : AllBare s.gens
  base : Un X.fs X.ex X.H₀ H X.s₀.heap s.heap
  loc : ∃ m, s.heap.Ns X.env.locals m ∧ ∀ (i : Nat) (x : Str) (v : V), X.N[i]? = some x → σ[i]? = some (some v) → Vis X.env.scope x → ∃ u, RelV v u ∧ Look X.env s.heap m x u
  cell : ∀ x c, X.env.cells.lookup x = some c → ∃ v, s.heap.IsCell c v
  free : H X.env.locals = none
  freeC : ∀ x c, X.env.cells.lookup x = some c → H c = none
  pin : ∀ p ∈ X.pn ++ pins, s.heap.get? p.1 = some p.2 ∧ H p.1 = none ∧ p.1 ≠ X.env.locals ∧ p.1 ∉ X.fs ∧ ∀ v, p.2.data ≠ .cell v
  hok : HOk X.prog X.w H s.heap
  len : σ.length = X.N.length

section
variable {X : Cx} {pins : List (Addr × Obj)} {σ : List (Option V)} {H H' : Hp} {s : Shared} {h' : Heap}

theorem Cx.Ok.nofr (ok : X.Ok) {b : Addr} {o : Obj} (e : X.base.get? b = some o) : b ∉ X.fs := fun hb => by
  have := (ok.funs.mem hb).1
  rw [e] at this; cases this
theorem Inv.bs (I : Inv X pins σ H s) : ∀ b o, X.base.get? b = some o → s.heap.get? b = some o ∧ H b = none := fun b o e =>
  ⟨I.base.keep b o (I.ok.bs b o e).1 (I.ok.bs b o e).2 (I.ok.nofr e) (I.ok.noex b o e), I.base.free b o (I.ok.bs b o e).1 (I.ok.bs b o e).2 (I.ok.noex b o e)⟩
theorem Inv.bk (I : Inv X pins σ H s) : ∀ b o, X.base.get? b = some o → s.heap.get? b = some o := fun b o e => (I.bs b o e).1
theorem Inv.mod (I : Inv X pins σ H s) : Mod X.K X.mg X.base := I.ok.mod
theorem Inv.kIn (I : Inv X pins σ H s) : X.K.In s.heap := I.ok.mod.kin.keeps I.bk
theorem Inv.nolimit (I : Inv X pins σ H s) : s.heap.NoLimit := I.ok.mod.nolimit.keeps I.bk
/-- the frame over the base: for OpenK's rules (K.In X.base is I.mod.kin) -/
theorem Inv.fr (I : Inv X pins σ H s) : ∃ m, Fr X.base X.env.locals s.heap m :=
  let ⟨m, hn, _⟩ := I.loc
  ⟨m, hn, I.bk, Nat.le_trans I.ok.bsz I.ok.above⟩
theorem Inv.lt (I : Inv X pins σ H s) : X.env.locals < s.heap.objs.size := let ⟨_, hn, _⟩ := I.loc; hn.lt
theorem Inv.sz (I : Inv X pins σ H s) : X.s₀.heap.objs.size ≤ s.heap.objs.size := Nat.le_trans I.ok.above (Nat.le_of_lt I.lt)
theorem Inv.nofs (I : Inv X pins σ H s) {a : Addr} (h : s.heap.objs.size ≤ a) : a ∉ X.fs := fun hb => by
  obtain ⟨_, o, ho, _⟩ := I.ok.funs.mem hb
  exact absurd (Nat.lt_of_lt_of_le (Heap.lt_size ho) (Nat.le_trans I.sz h)) (Nat.lt_irrefl _)
theorem Inv.cne (I : Inv X pins σ H s) : ∀ x c, X.env.cells.lookup x = some c → c ≠ X.env.locals := fun x c e z => by
  obtain ⟨v, o, ho, hd⟩ := I.cell x c e
  obtain ⟨m, ⟨o', es, ep, ho', hd', _⟩, _⟩ := I.loc
  rw [z, ho'] at ho; cases ho; rw [hd'] at hd; cases hd
theorem Inv.funs (I : Inv X pins σ H s) : s.heap.FunFrames X.base X.outer := by
  have all : ∀ (l : List Env), (∀ b ∈ frs l, b ∈ X.fs) → X.s₀.heap.FunFrames X.base l → s.heap.FunFrames X.base l := by
    intro l
    induction l with
    | nil => intro _ _; trivial
    | cons env r ih =>
      intro hs hl
      obtain ⟨hk, ⟨L, o, hf, hn, ho, hd⟩, hr⟩ := hl
      have hL : L ∈ X.fs := hs L (by unfold frs; rw [List.filterMap_cons, hf]; exact List.mem_cons_self)
      obtain ⟨sl, e⟩ := I.base.slot L o ho (I.ok.frf L hL) hL fun z => I.ok.exfs L z hL
      exact ⟨hk, ⟨L, _, hf, hn, e, hd⟩, ih (fun b hb => hs b (by unfold frs; rw [List.filterMap_cons, hf]; exact List.mem_cons_of_mem _ hb)) hr⟩
  exact all X.outer (fun _ hb => hb) I.ok.funs

/-- the frames that run, for a call -/
theorem Inv.stack (I : Inv X pins σ H s) : s.heap.FunFrames X.base X.stack := by
  rcases I.ok.stk with e | ⟨e, hf⟩
  · rw [e]; exact I.funs
  · rw [e]
    obtain ⟨m, hn, _⟩ := I.loc
    refine .cons (by rw [I.ok.kind]; decide) hf hn ?_ I.funs
    exact Heap.get?_none_of_le (Nat.le_trans I.ok.bsz I.ok.above)
theorem Inv.stkSub (I : Inv X pins σ H s) : ∀ b ∈ frs X.stack, b ∈ X.env.locals :: X.fs := fun b hb => by
  rcases I.ok.stk with e | ⟨e, hf⟩
  · rw [e] at hb; exact List.mem_cons_of_mem _ hb
  · rw [e] at hb
    unfold frs at hb
    rw [List.filterMap_cons, hf] at hb
    exact hb
theorem Inv.stkFree (I : Inv X pins σ H s) : ∀ b ∈ frs X.stack, H b = none := fun b hb => by
  rcases List.mem_cons.mp (I.stkSub b hb) with e | hb
  · rw [e]; exact I.free
  · obtain ⟨_, o, ho, _⟩ := I.ok.funs.mem hb
    exact I.base.free b o ho (I.ok.frf b hb) fun z => I.ok.exfs b z hb

/-- THE STEP: the untracked objects but the frame and the records at ch are kept (the callers' frames up to slots), the frame's map is kept, the new abstract heap is held -/
theorem Inv.step {g' : Array GenState} {t' : Nat} {d' : Drawn} {ch : List Addr} (I : Inv X pins σ H s)
    (hch : ∀ b ∈ ch, (b ∈ X.ex ∨ X.s₀.heap.objs.size ≤ b) ∧ b ≠ X.env.locals ∧ (∀ x c, X.env.cells.lookup x = some c → c ≠ b) ∧ ∀ p ∈ X.pn ++ pins, p.1 ≠ b)
    (keep : ∀ b o, b ≠ X.env.locals → b ∉ X.fs → b ∉ ch → s.heap.get? b = some o → H b = none → h'.get? b = some o)
    (slot : ∀ b o, b ≠ X.env.locals → b ∈ X.fs → b ∉ ch → s.heap.get? b = some o → H b = none → ∃ sl, h'.get? b = some { o with slots := sl }) (free : ∀ b o, b ∉ ch → s.heap.get? b = some o → H b = none → H' b = none)
    (there : ∀ b o, b ∉ ch → s.heap.get? b = some o → ∃ o', h'.get? b = some o')
    (tups : ∀ b xs, H b = some (.tup xs) → H' b = some (.tup xs)) (frzs : ∀ b o u, H b = some (.frz o u) → H' b = some (.frz o u)) (tbls : ∀ b ps, H b = some (.tbl ps) → ∃ more, H' b = some (.tbl (ps ++ more)))
    (ns : ∀ m, s.heap.Ns X.env.locals m → h'.Ns X.env.locals m) (hok : HOk X.prog X.w H' h') (hg : AllBare g') :
    Inv X pins σ H' { s with heap := h', gens := g', drawn := d', toks := t' } := by
  have neL : ∀ b o, X.s₀.heap.get? b = some o → b ≠ X.env.locals := fun b o e => Nat.ne_of_lt (Nat.lt_of_lt_of_le (Heap.lt_size e) I.ok.above)
  have neC : ∀ b o, X.s₀.heap.get? b = some o → b ∉ X.ex → b ∉ ch := fun b o e hx hb => by
    rcases (hch b hb).1 with z | z
    · exact hx z
    · exact absurd (Nat.lt_of_lt_of_le (Heap.lt_size e) z) (Nat.lt_irrefl _)
  have cellK : ∀ x c, X.env.cells.lookup x = some c → ∀ v, s.heap.IsCell c v → h'.IsCell c v := fun x c e v ⟨o, ho, hd⟩ => by
    have nch : c ∉ ch := fun z => (hch c z).2.2.1 x c e rfl
    by_cases hc : c ∈ X.fs
    · obtain ⟨sl, q⟩ := slot c o (I.cne x c e) hc nch ho (I.freeC x c e)
      exact ⟨_, q, hd⟩
    · exact ⟨o, keep c o (I.cne x c e) hc nch ho (I.freeC x c e), hd⟩
  refine ⟨I.ok, I.os, hg, ⟨fun b o e n hb hx => ?_, fun b o e n hb hx => ?_, fun b o e n hx => ?_, fun b o e hx => ?_, fun b xs e => tups b xs (I.base.tups b xs e), fun b o xs e => frzs b o xs (I.base.frzs b o xs e), fun b ps e => ?_⟩, ?_, fun x c e => ?_, ?_, fun x c e => ?_, fun p hp => ?_, hok, I.len⟩
  · exact keep b o (neL b o e) hb (neC b o e hx) (I.base.keep b o e n hb hx) (I.base.free b o e n hx)
  · obtain ⟨sl, e1⟩ := I.base.slot b o e n hb hx
    obtain ⟨sl', e2⟩ := slot b _ (neL b o e) hb (neC b o e hx) e1 (I.base.free b o e n hx)
    exact ⟨sl', e2⟩
  · obtain ⟨o', e1⟩ := I.base.there b o e hx
    exact free b o' (neC b o e hx) e1 (I.base.free b o e n hx)
  · obtain ⟨o', e1⟩ := I.base.there b o e hx
    exact there b o' (neC b o e hx) e1
  · obtain ⟨m1, e1⟩ := I.base.tbls b ps e
    obtain ⟨m2, e2⟩ := tbls b _ e1
    exact ⟨m1 ++ m2, by rw [e2, Array.append_assoc]⟩
  · obtain ⟨m, hn, hl⟩ := I.loc
    refine ⟨m, ns m hn, fun i x v e1 e2 e3 => ?_⟩
    obtain ⟨u, r, l⟩ := hl i x v e1 e2 e3
    refine ⟨u, r, ?_⟩
    rcases l with l | ⟨k, c, e, z⟩
    · exact .inl l
    · exact .inr ⟨k, c, e, cellK x c e _ z⟩
  · obtain ⟨v, z⟩ := I.cell x c e
    exact ⟨v, cellK x c e v z⟩
  · obtain ⟨m, ⟨o, _, _, ho, _⟩, _⟩ := I.loc
    exact free _ o (fun z => (hch _ z).2.1 rfl) ho I.free
  · obtain ⟨v, o, ho, hd⟩ := I.cell x c e
    exact free c o (fun z => (hch c z).2.2.1 x c e rfl) ho (I.freeC x c e)
  · obtain ⟨e, n, ne, nf, d⟩ := I.pin p hp
    have nch : p.1 ∉ ch := fun z => (hch p.1 z).2.2.2 p hp rfl
    exact ⟨keep p.1 p.2 ne nf nch e n, free p.1 p.2 nch e n, ne, nf, d⟩
/-- .. where the frame's own object is kept too -/
theorem Inv.un {t' : Nat} (I : Inv X pins σ H s) (u : Un X.fs [] H H' s.heap h') (hok : HOk X.prog X.w H' h') : Inv X pins σ H' { s with heap := h', toks := t' } := by
  obtain ⟨m, ⟨o, es, ep, ho, r⟩, _⟩ := id I.loc
  obtain ⟨sl, hL⟩ := u.any ho I.free (by simp)
  exact I.step (g' := s.gens) (d' := s.drawn) (ch := []) (fun _ z => nomatch z) (fun b o _ hb _ e n => u.keep b o e n hb (by simp)) (fun b o _ hb _ e n => u.slot b o e n hb (by simp)) (fun b o _ e n => u.free b o e n (by simp)) (fun b o _ e => u.there b o e (by simp)) u.tups u.frzs u.tbls (fun m' hm => by
    obtain ⟨o', es', ep', ho', r'⟩ := hm
    rw [ho] at ho'; cases ho'
    exact ⟨_, es', ep', hL, r'⟩) hok I.bare
/-- behind a call (or a comprehension's block): the slots of this frame may have changed too, the records at ch may have turned -/
theorem Inv.call {g' : Array GenState} {t' : Nat} {d' : Drawn} {ch : List Addr} (I : Inv X pins σ H s) (u : Un (frs X.stack) ch H H' s.heap h') (hok : HOk X.prog X.w H' h') (hg : AllBare g')
    (hch : ∀ b ∈ ch, (b ∈ X.ex ∨ X.s₀.heap.objs.size ≤ b) ∧ b ≠ X.env.locals ∧ (∀ x c, X.env.cells.lookup x = some c → c ≠ b) ∧ ∀ p ∈ X.pn ++ pins, p.1 ≠ b) :
    Inv X pins σ H' { s with heap := h', gens := g', drawn := d', toks := t' } := by
  obtain ⟨m, ⟨o, es, ep, ho, r⟩, _⟩ := id I.loc
  obtain ⟨sl, hL⟩ := u.any ho I.free fun z => (hch _ z).2.1 rfl
  exact I.step (ch := ch) hch (fun b o hL hb hc e n => u.keep b o e n (fun z => (List.mem_cons.mp (I.stkSub b z)).elim hL hb) hc) (fun b o _ _ hc e n => u.any e n hc) (fun b o hc e n => u.free b o e n hc) (fun b o hc e => u.there b o e hc) u.tups u.frzs u.tbls (fun m' hm => by
    obtain ⟨o', es', ep', ho', r'⟩ := hm
    rw [ho] at ho'; cases ho'
    exact ⟨_, es', ep', hL, r'⟩) hok hg
/-- an untracked record of ours (an iterator) has turned -/
theorem Inv.turned {t' : Nat} {it : Addr} (I : Inv X pins σ H s) (k : ∀ b o, b ≠ it → s.heap.get? b = some o → h'.get? b = some o) (hn : H it = none) (hL : it ≠ X.env.locals)
    (h1 : it ∈ X.ex ∨ X.s₀.heap.objs.size ≤ it) (h2 : ∀ x c, X.env.cells.lookup x = some c → c ≠ it) (h3 : ∀ p ∈ X.pn ++ pins, p.1 ≠ it) : Inv X pins σ H { s with heap := h', toks := t' } := by
  have nit : ∀ b u, H b = some u → b ≠ it := fun b u e z => by rw [z, hn] at e; cases e
  refine I.step (g' := s.gens) (d' := s.drawn) (ch := [it]) (fun b hb => ?_) (fun b o _ _ hc e _ => k b o (fun z => hc (by simp [z])) e) (fun b o _ _ hc e _ => ⟨o.slots, k b o (fun z => hc (by simp [z])) e⟩) (fun _ _ _ _ n => n)
    (fun b o hc e => ⟨o, k b o (fun z => hc (by simp [z])) e⟩) (fun _ _ e => e) (fun _ _ _ e => e) (fun b ps e => ⟨#[], by rw [e]; simp⟩) (fun m hm => ?_) (fun b u e => ?_) I.bare
  · have e : b = it := by simpa using hb
    subst e
    exact ⟨h1, hL, h2, h3⟩
  · obtain ⟨o, es, ep, ho, r⟩ := hm
    exact ⟨o, es, ep, k _ o (Ne.symm hL) ho, r⟩
  · refine (I.hok b u e).stay (fun c v hc q => k c v ?_ q) (fun _ q => q) fun _ _ q => q
    rcases hc with z | z
    · rw [z]; exact nit b u e
    · exact nit c _ z
theorem Inv.tok (I : Inv X pins σ H s) (t : Nat) : Inv X pins σ H { s with toks := t } := I.un (h' := s.heap) (t' := t) Un.refl I.hok
/-- all objects kept -/
theorem Inv.kept {t' : Nat} (I : Inv X pins σ H s) (k : ∀ b u, s.heap.get? b = some u → h'.get? b = some u) : Inv X pins σ H { s with heap := h', toks := t' } := I.un (Un.kept k) (I.hok.kept k)
/-- a new object laid and tracked -/
theorem Inv.laid {a : Addr} {o : HO} {t' : Nat} (I : Inv X pins σ H s) (k : ∀ b u, s.heap.get? b = some u → h'.get? b = some u) (hp : s.heap.objs.size ≤ a) (new : ObjOk X.prog X.w (upd H a o) h' a o) :
    Inv X pins σ (upd H a o) { s with heap := h', toks := t' } := I.un (Un.laid k hp (I.hok.fresh hp)) (I.hok.laid k hp new)
/-- an object written -/
theorem Inv.write {x e : Addr} {o : HO} {t' : Nat} (I : Inv X pins σ H s) (mu : Mut (H x)) (he : e = x ∨ H e = some (.own x)) (k : ∀ b u, b ≠ e → s.heap.get? b = some u → h'.get? b = some u) (heo : ∃ u, h'.get? e = some u)
    (new : ObjOk X.prog X.w (upd H x o) h' x o) : Inv X pins σ (upd H x o) { s with heap := h', toks := t' } := I.un (Un.write mu he k heo) (I.hok.write mu he k heo new)
/-- forgetting slots, pins -/
theorem Inv.weak {σ' : List (Option V)} (I : Inv X pins σ H s) (hl : σ'.length = σ.length) (w : ∀ (i : Nat) v, σ'[i]? = some (some v) → σ[i]? = some (some v)) : Inv X pins σ' H s :=
  ⟨I.ok, I.os, I.bare, I.base, let ⟨m, hn, hl'⟩ := I.loc; ⟨m, hn, fun i x v e1 e2 e3 => hl' i x v e1 (w i v e2) e3⟩, I.cell, I.free, I.freeC, I.pin, I.hok, hl.trans I.len⟩
theorem Inv.pins_of {pins' : List (Addr × Obj)} (I : Inv X pins σ H s) (h : ∀ p ∈ pins', s.heap.get? p.1 = some p.2 ∧ H p.1 = none ∧ p.1 ≠ X.env.locals ∧ p.1 ∉ X.fs ∧ ∀ v, p.2.data ≠ .cell v) : Inv X pins' σ H s :=
  ⟨I.ok, I.os, I.bare, I.base, I.loc, I.cell, I.free, I.freeC, fun p hp => (List.mem_append.mp hp).elim (fun z => I.pin p (List.mem_append_left _ z)) (h p), I.hok, I.len⟩

theorem nodup_ix {N : List Str} (hN : N.Nodup) {i j : Nat} {x : Str} (a : N[i]? = some x) (b : N[j]? = some x) : i = j := by
  obtain ⟨h1, e1⟩ := List.getElem?_eq_some_iff.mp a
  obtain ⟨h2, e2⟩ := List.getElem?_eq_some_iff.mp b
  exact (List.getElem_inj hN).mp (e1.trans e2.symm)

/-- a name is stored; what changed -/
theorem store_ok2 {M : Model} {A : Around} {E : Value → Shared → Prop} {i : Nat} {x : Str} {v : V} {u : Value} {Q : Unit → Shared → Prop} (I : Inv X pins σ H s) (hN : X.N.Nodup) (hi : X.N[i]? = some x) (hx : Loc X.env.scope x) (r : RelV v u)
    (h : ∀ s', Inv X pins (σ.set i (some v)) H s' → (∃ a, Heap.SameBut a s.heap s'.heap ∧ (a = X.env.locals ∨ X.env.cells.lookup x = some a)) → Q () s') (hf : X.fn x = true ∨ X.env.scope.names.lookup x = some .local := by first | exact .inl rfl | exact .inr rfl | assumption) : wpAny M A (storeName X.env x u) Q E s := by
  obtain ⟨m, hn, hl⟩ := id I.loc
  have hcls : (X.env.scope.kind == .class || (X.env.scope.kind == .module && X.env.locals != X.env.globals)) = false := by rw [I.ok.kind]; rfl
  have hiσ : i < σ.length := by rw [I.len]; exact (List.getElem?_eq_some_iff.mp hi).1
  have cne := I.cne
  have tracked : ∀ {a : Addr} {h' : Heap}, (∃ o, s.heap.get? a = some o ∧ H a = none) → Heap.SameBut a s.heap h' → HOk X.prog X.w H h' := fun {a h'} ha hs b ob e => by
    obtain ⟨_, _, hfree⟩ := ha
    refine (I.hok b ob e).stay (fun c w' hc q => (hs.2 c ?_).trans q) (fun _ q => q) fun _ _ q => q
    rintro rfl
    rcases hc with rfl | hc
    · rw [hfree] at e; cases e
    · rw [hfree] at hc; cases hc
  rcases hx with hk | hk
  · refine wpAny_storeName_local hk hn (fun h' hn' hs => ?_) hcls
    obtain ⟨oL, _, _, hoL, _⟩ := id hn
    refine h _ ⟨I.ok, I.os, I.bare, ⟨fun b o e n hb hx => ?_, fun b o e n hb hx => ?_, I.base.free, fun b o e hx => ?_, I.base.tups, I.base.frzs, I.base.tbls⟩, ⟨_, hn', fun j y v' e1 e2 e3 => ?_⟩, fun y c e => ?_, I.free, I.freeC, fun p hp => ?_, tracked ⟨oL, hoL, I.free⟩ hs, by simpa using I.len⟩ ⟨_, hs, .inl rfl⟩
    · exact (hs.2 b (Nat.ne_of_lt (Nat.lt_of_lt_of_le (Heap.lt_size e) I.ok.above))).trans (I.base.keep b o e n hb hx)
    · obtain ⟨sl, e1⟩ := I.base.slot b o e n hb hx
      exact ⟨sl, (hs.2 b (Nat.ne_of_lt (Nat.lt_of_lt_of_le (Heap.lt_size e) I.ok.above))).trans e1⟩
    · obtain ⟨o', e1⟩ := I.base.there b o e hx
      exact ⟨o', (hs.2 b (Nat.ne_of_lt (Nat.lt_of_lt_of_le (Heap.lt_size e) I.ok.above))).trans e1⟩
    · by_cases hj : j = i
      · subst hj
        rw [hi] at e1; cases e1
        rw [List.getElem?_set_self hiσ] at e2
        cases e2
        exact ⟨u, r, .inl ⟨hk, by simp⟩⟩
      · rw [List.getElem?_set_ne (Ne.symm hj)] at e2
        obtain ⟨u', r', q⟩ := hl j y v' e1 e2 e3
        refine ⟨u', r', ?_⟩
        rcases q with ⟨k, e⟩ | ⟨k, c, e, z⟩
        · refine .inl ⟨k, ?_⟩
          have : y ≠ x := fun e => hj (nodup_ix hN e1 (e ▸ hi))
          simp [this, e]
        · exact .inr ⟨k, c, e, z.sameBut hs (cne y c e)⟩
    · obtain ⟨w', z⟩ := I.cell y c e
      exact ⟨w', z.sameBut hs (cne y c e)⟩
    · obtain ⟨e, n, ne, nf, d⟩ := I.pin p hp
      exact ⟨(hs.2 p.1 ne).trans e, n, ne, nf, d⟩
  · have hfn : X.fn x = true := by
      rcases hf with z | z
      · exact z
      · rw [z] at hk; cases hk
    obtain ⟨c, hc⟩ := I.ok.has x (.inl hk)
    obtain ⟨w', z⟩ := I.cell x c hc
    refine wpAny_storeName_cell I.ok.kind hk hc z (fun h' hc' hs => ?_)
    obtain ⟨oc, hoc, hocd⟩ := id z
    refine h { s with heap := h' } ⟨I.ok, I.os, I.bare, ⟨fun b o e n hb hx => ?_, fun b o e n hb hx => ?_, I.base.free, fun b o e hx => ?_, I.base.tups, I.base.frzs, I.base.tbls⟩, ⟨m, hn.sameBut hs (Ne.symm (cne x c hc)), fun j y v' e1 e2 e3 => ?_⟩, fun y c' e => ?_, I.free, I.freeC, fun p hp => ?_, tracked ⟨oc, hoc, I.freeC x c hc⟩ hs, by simpa using I.len⟩ ⟨c, hs, .inr hc⟩
    · exact (hs.2 b (Nat.ne_of_lt (Nat.lt_of_lt_of_le (Heap.lt_size e) (I.ok.cab x c hfn hc)))).trans (I.base.keep b o e n hb hx)
    · obtain ⟨sl, e1⟩ := I.base.slot b o e n hb hx
      exact ⟨sl, (hs.2 b (Nat.ne_of_lt (Nat.lt_of_lt_of_le (Heap.lt_size e) (I.ok.cab x c hfn hc)))).trans e1⟩
    · obtain ⟨o', e1⟩ := I.base.there b o e hx
      exact ⟨o', (hs.2 b (Nat.ne_of_lt (Nat.lt_of_lt_of_le (Heap.lt_size e) (I.ok.cab x c hfn hc)))).trans e1⟩
    · by_cases hj : j = i
      · subst hj
        rw [hi] at e1; cases e1
        rw [List.getElem?_set_self hiσ] at e2
        cases e2
        exact ⟨u, r, .inr ⟨.inl hk, c, hc, hc'⟩⟩
      · rw [List.getElem?_set_ne (Ne.symm hj)] at e2
        obtain ⟨u', r', q⟩ := hl j y v' e1 e2 e3
        refine ⟨u', r', ?_⟩
        rcases q with q | ⟨k, c', e, z'⟩
        · exact .inl q
        · refine .inr ⟨k, c', e, z'.sameBut hs ?_⟩
          rintro rfl
          exact hj (nodup_ix hN e1 (I.ok.inj _ _ _ e hc ▸ hi))
    · by_cases hcc : c' = c
      · subst hcc; exact ⟨_, hc'⟩
      · obtain ⟨w2, z2⟩ := I.cell y c' e
        exact ⟨w2, z2.sameBut hs hcc⟩
    · obtain ⟨e, n, ne, nf, d⟩ := I.pin p hp
      refine ⟨(hs.2 p.1 ?_).trans e, n, ne, nf, d⟩
      intro q
      rw [q, hoc] at e
      have q' : oc = p.2 := Option.some.inj e
      exact d w' (by rw [← q']; exact hocd)
theorem store_ok {M : Model} {A : Around} {E : Value → Shared → Prop} {i : Nat} {x : Str} {v : V} {u : Value} {Q : Unit → Shared → Prop} (I : Inv X pins σ H s) (hN : X.N.Nodup) (hi : X.N[i]? = some x) (hx : Loc X.env.scope x) (r : RelV v u)
    (h : ∀ s', Inv X pins (σ.set i (some v)) H s' → Q () s') (hf : X.fn x = true ∨ X.env.scope.names.lookup x = some .local := by first | exact .inl rfl | exact .inr rfl | assumption) : wpAny M A (storeName X.env x u) Q E s :=
  store_ok2 I hN hi hx r (fun s' I' _ => h s' I') hf
/-- behind a call or a block, the state as it is -/
theorem Inv.call' {s' : Shared} {ch : List Addr} (I : Inv X pins σ H s) (ho : s'.os = s.os) (u : Un (frs X.stack) ch H H' s.heap s'.heap) (hok : HOk X.prog X.w H' s'.heap) (hg : AllBare s'.gens)
    (hch : ∀ b ∈ ch, (b ∈ X.ex ∨ X.s₀.heap.objs.size ≤ b) ∧ b ≠ X.env.locals ∧ (∀ x c, X.env.cells.lookup x = some c → c ≠ b) ∧ ∀ p ∈ X.pn ++ pins, p.1 ≠ b) : Inv X pins σ H' s' := by
  obtain ⟨h', g', d', t', o'⟩ := s'
  have e : o' = s.os := ho
  subst e
  exact I.call (g' := g') (t' := t') (d' := d') u hok hg hch
end

/-! ### the judgements -/
/-- an exception: its class, its own dict's address (where it has one), the abstract heap behind it -/
abbrev XK := Value → Option Addr → Hp → Prop
abbrev St := List (Option V)
abbrev VK := V → Hp → Prop
/-- an expression's reading; a test's; an argument list's -/
abbrev TE := St → Hp → VK → Prop
abbrev TT := St → Hp → (Bool → Hp → Prop) → Prop
abbrev TA := St → Hp → (List V → Hp → Prop) → Prop
/-- what is wanted behind a statement -/
structure Ends where
  nx : St → Hp → Prop
  rt : VK
  bk : St → Hp → Prop := fun _ _ => False
  ct : St → Hp → Prop := fun _ _ => False
abbrev TS := Ends → St → Hp → Prop

def EP (X : Cx) (pins : List (Addr × Obj)) (σ : St) (Q : VK) (u : Value) (s' : Shared) : Prop := ∃ v H', Inv X pins σ H' s' ∧ RelV v u ∧ Q v H'
def TP (X : Cx) (pins : List (Addr × Obj)) (σ : St) (Q : Bool → Hp → Prop) (b : Bool) (s' : Shared) : Prop := ∃ H', Inv X pins σ H' s' ∧ Q b H'
def AP (X : Cx) (pins : List (Addr × Obj)) (σ : St) (Q : List V → Hp → Prop) (us : List Value) (s' : Shared) : Prop := ∃ vs H', Inv X pins σ H' s' ∧ Vals vs us ∧ Q vs H'
def SP (X : Cx) (pins : List (Addr × Obj)) (D : Ends) (f : Flow) (s' : Shared) : Prop :=
  match f with
  | .next => ∃ σ' H', Inv X pins σ' H' s' ∧ D.nx σ' H'
  | .brk => ∃ σ' H', Inv X pins σ' H' s' ∧ D.bk σ' H'
  | .cont => ∃ σ' H', Inv X pins σ' H' s' ∧ D.ct σ' H'
  | .ret u => ∃ v σ' H', Inv X pins σ' H' s' ∧ RelV v u ∧ D.rt v H'

def PE (X : Cx) (e : Expr) (t : TE) : Prop :=
  ∀ (pins : List (Addr × Obj)) (s : Shared) (σ : St) (H : Hp) (Q : VK), Inv X pins σ H s → t σ H Q → wpAny (model X.prog X.w) X.A (eval e X.env) (EP X pins σ Q) X.xe s
def PT (X : Cx) (e : Expr) (t : TT) : Prop :=
  ∀ (pins : List (Addr × Obj)) (s : Shared) (σ : St) (H : Hp) (Q : Bool → Hp → Prop), Inv X pins σ H s → t σ H Q → wpAny (model X.prog X.w) X.A (isTrue e X.env (eval e X.env)) (TP X pins σ Q) X.xe s
/-- a test whatever its 'whole' is (and, or) -/
def PW (X : Cx) (e : Expr) (t : TT) : Prop :=
  ∀ (whole : Sem Value) (pins : List (Addr × Obj)) (s : Shared) (σ : St) (H : Hp) (Q : Bool → Hp → Prop), Inv X pins σ H s → t σ H Q → wpAny (model X.prog X.w) X.A (isTrue e X.env whole) (TP X pins σ Q) X.xe s
theorem PW.pt {X : Cx} {e : Expr} {t : TT} (h : PW X e t) : PT X e t := h _
/-- an argument list (no star), from the left -/
def PA (X : Cx) (es : List Expr) (t : TA) : Prop :=
  ∀ (pos : Pos) (pins : List (Addr × Obj)) (s : Shared) (σ : St) (H : Hp) (Q : List V → Hp → Prop), Inv X pins σ H s → t σ H Q → wpAny (model X.prog X.w) X.A (spliced (backTo pos (starEach es X.env))) (AP X pins σ Q) X.xe s
def PS (X : Cx) (st : Stmt) (t : TS) : Prop :=
  ∀ (pins : List (Addr × Obj)) (s : Shared) (σ : St) (H : Hp) (D : Ends), Inv X pins σ H s → t D σ H → wpAny (model X.prog X.w) X.A (exec st X.env) (SP X pins D) X.xe s
def PSs (X : Cx) (st : List Stmt) (t : TS) : Prop :=
  ∀ (pins : List (Addr × Obj)) (s : Shared) (σ : St) (H : Hp) (D : Ends), Inv X pins σ H s → t D σ H → wpAny (model X.prog X.w) X.A (execs st X.env) (SP X pins D) X.xe s
/-- weaken the end -/
theorem thn {α : Type} {t : Sem α} {Q Q' : α → Shared → Prop} {M : Model} {A : Around} {E : Value → Shared → Prop} {s : Shared} (h : wpAny M A t Q E s) (hQ : ∀ a s, Q a s → Q' a s) : wpAny M A t Q' E s := wpAny_mono h hQ fun _ _ x => x
end L2

namespace L2
open PySem PySem.Spec PyProof.Rows
section
variable {X : Cx}

/-! ### names and constants -/
def tVar (i : Nat) : TE := fun σ H Q => ∃ v, σ[i]? = some (some v) ∧ Q v H
def tC (v : V) : TE := fun _ H Q => Q v H
theorem pe_var {i : Nat} {x : Str} {pos : Pos} (hN : X.N[i]? = some x) (hv : Vis X.env.scope x) (hd : (x == ("__debug__" : Str)) = false := by decide) (hcd : (x == ("__classdict__" : Str)) = false := by decide) : PE X (.Name x pos) (tVar i) := by
  intro pins s σ H Q I h
  obtain ⟨v, e, h⟩ := h
  obtain ⟨m, hn, hl⟩ := I.loc
  obtain ⟨u, r, l⟩ := hl i x v hN e hv
  have fin : EP X pins σ Q u s := ⟨v, H, I, r, h⟩
  rcases l with ⟨hk, hm⟩ | ⟨hk, c, hc, hcell⟩
  · exact wpAny_Name (wpAny_loadName_local I.ok.kind hk hn hm fin) hd
  · rcases hk with hk | hk
    · exact wpAny_Name (wpAny_loadName_cell I.ok.kind hk hc hcell fin) hd
    · exact wpAny_Name (wpAny_loadName_free I.ok.kind hk hc hcell fin hcd) hd
theorem pe_int {i j pos} : PE X (.Constant (.int i) j pos) (tC (.int i)) := fun _ _ _ H _ I h => wpAny_Constant_int ⟨.int i, H, I.tok _, ⟨_, rfl⟩, h⟩
theorem pe_bl {b j pos} : PE X (.Constant (.bool b) j pos) (tC (.bl b)) := fun _ _ _ H _ I h => Constant_bool ⟨.bl b, H, I, rfl, h⟩
theorem pe_str {x j pos} : PE X (.Constant (.str x) j pos) (tC (.str x)) := fun _ _ _ H _ I h => Calls.Constant_str ⟨.str x, H, I.tok _, ⟨_, rfl⟩, h⟩

/-- a global name of the def -/
def Gl (X : Cx) (x : Str) : Prop := X.env.kindOf x = some .globalImplicit
theorem ld_glob {E : Value → Shared → Prop} {pins : List (Addr × Obj)} {s : Shared} {σ : St} {H : Hp} {x : Str} {u : Value} {pos : Pos} {Q : Value → Shared → Prop} (I : Inv X pins σ H s) (hg : Gl X x) (hm : X.mg x = some u) (h : Q u s)
    (hd : (x == ("__debug__" : Str)) = false := by decide) : wpAny (model X.prog X.w) X.A (eval (.Name x pos) X.env) Q E s :=
  Calls.Name_function_global I.ok.kind hg (Calls.loadGlobal_global (by rw [I.ok.glob]; exact I.mod.glob.keeps I.bk) hm h) hd
theorem ld_blt {E : Value → Shared → Prop} {pins : List (Addr × Obj)} {s : Shared} {σ : St} {H : Hp} {x : Str} {u : Value} {pos : Pos} {Q : Value → Shared → Prop} (I : Inv X pins σ H s) (hg : Gl X x) (hm : X.mg x = none) (hv : bootBuiltins x = some u) (h : Q u s)
    (hn : x ≠ "__name__" := by decide) (hd : (x == ("__debug__" : Str)) = false := by decide) : wpAny (model X.prog X.w) X.A (eval (.Name x pos) X.env) Q E s := by
  obtain ⟨mb, h1, h2⟩ := I.mod.blt
  exact Calls.Name_function_global I.ok.kind hg (Calls.loadGlobal_builtin (by rw [I.ok.glob]; exact I.mod.glob.keeps I.bk) hm (by rw [I.ok.blt]; exact h1.keeps I.bk) ((h2 x hn).trans hv) h) hd
/-- a module's constant, a class, a function, as a value -/
theorem pe_glob {x : Str} {v : V} {u : Value} {pos : Pos} (hg : Gl X x) (hm : X.mg x = some u) (r : RelV v u) (hd : (x == ("__debug__" : Str)) = false := by decide) : PE X (.Name x pos) (tC v) :=
  fun _ _ _ H _ I h => ld_glob I hg hm ⟨v, H, I, r, h⟩ hd
theorem pe_bltn {x : Str} {v : V} {u : Value} {pos : Pos} (hg : Gl X x) (hm : X.mg x = none) (hv : bootBuiltins x = some u) (r : RelV v u) (hn : x ≠ "__name__" := by decide) (hd : (x == ("__debug__" : Str)) = false := by decide) : PE X (.Name x pos) (tC v) :=
  fun _ _ _ H _ I h => ld_blt I hg hm hv ⟨v, H, I, r, h⟩ hn hd

/-! ### arithmetic -/
variable {a b : Expr} {ta tb : TE} {pos : Pos}
/-! ### comparisons -/
def PC (X : Cx) (op : CmpOp) (a b : Expr) (t : TE) : Prop :=
  ∀ (pins : List (Addr × Obj)) (s : Shared) (σ : St) (H : Hp) (Q : VK), Inv X pins σ H s → t σ H Q →
    wpAny (model X.prog X.w) X.A (eval a X.env) (fun v s₁ => wpAny (model X.prog X.w) X.A (eval b X.env) (fun u s₂ => wpAny (model X.prog X.w) X.A (compareOp op v u) (EP X pins σ Q) X.xe s₂) X.xe s₁) X.xe s
theorem nobehind (b : Expr) {op : CmpOp} (h : op ≠ .In) (h2 : op ≠ .NotIn) : behindInMarks op b = false := by
  have e1 : (op == CmpOp.In) = false := by cases op <;> first | rfl | exact absurd rfl h
  have e2 : (op == CmpOp.NotIn) = false := by cases op <;> first | rfl | exact absurd rfl h2
  cases b <;> simp [behindInMarks, e1, e2]
/-- a comparison as a value, as a test -/
def tB (t : TE) : TT := fun σ H Q => t σ H fun x H1 => ∃ c, x = .bl c ∧ Q c H1
theorem pt_cmp {op : CmpOp} {t : TE} (h : PC X op a b t) (h1 : behindInMarks op b = false := by first | exact nobehind _ (by decide) (by decide) | rfl) : PT X (.Compare a [op] [b] pos) (tB t) := by
  intro pins s σ H Q I hw
  refine wpAny_isTrue_Compare1 (thn (h pins s σ H _ I hw) fun v s1 h1 => thn h1 fun u s2 h2 => thn h2 fun c s3 ⟨x, H1, I1, r1, q1⟩ => ?_) h1
  obtain ⟨d, rfl, q⟩ := q1
  cases r1
  exact wpAny_truthy_bool ⟨H1, I1, q⟩
/-- an expression whose value is a bool, as a test -/
theorem pt_val {e : Expr} {t : TE} (h : PE X e t) (he : ∀ whole, isTrue e X.env whole = (do let v ← whole; standAt e.pos; holding [v] (truthy v)) := by intro _; rfl) : PT X e (tB t) := by
  intro pins s σ H Q I hw
  refine isTrue_plain (thn (h pins s σ H _ I hw) fun v s1 ⟨x, H1, I1, r1, q1⟩ => ?_) (he _)
  obtain ⟨d, rfl, q⟩ := q1
  cases r1
  exact wpAny_truthy_bool ⟨H1, I1, q⟩

/-! ### and, or, not -/
variable {tA tB' : TT} {rest : List Expr}
def tAnd (t u : TT) : TT := fun σ H Q => t σ H fun c H1 => if c = true then u σ H1 Q else Q false H1
def tOr (t u : TT) : TT := fun σ H Q => t σ H fun c H1 => if c = true then Q true H1 else u σ H1 Q
def tNot (t : TT) : TT := fun σ H Q => t σ H fun c H1 => Q (!c) H1
theorem pw_and1 (ha : PT X a tA) : PW X (.BoolOp .And [a] pos) tA := by
  intro wh pins s σ H Q I h
  refine isTrue_and (thn (ha pins s σ H Q I h) fun c s1 e => ?_)
  cases c with
  | true => exact isTrue_and_nil e
  | false => exact e
theorem pw_or1 (ha : PT X a tA) : PW X (.BoolOp .Or [a] pos) tA := by
  intro wh pins s σ H Q I h
  refine isTrue_or (thn (ha pins s σ H Q I h) fun c s1 e => ?_)
  cases c with
  | false => exact isTrue_or_nil e
  | true => exact e
theorem pw_and (ha : PT X a tA) (hb : PW X (.BoolOp .And (b :: rest) pos) tB') : PW X (.BoolOp .And (a :: b :: rest) pos) (tAnd tA tB') := by
  intro wh pins s σ H Q I h
  refine isTrue_and (thn (ha pins s σ H _ I h) fun c s1 ⟨H1, I1, q1⟩ => ?_)
  cases c with
  | true => exact hb wh pins s1 σ H1 Q I1 q1
  | false => exact ⟨H1, I1, q1⟩
theorem pw_or (ha : PT X a tA) (hb : PW X (.BoolOp .Or (b :: rest) pos) tB') : PW X (.BoolOp .Or (a :: b :: rest) pos) (tOr tA tB') := by
  intro wh pins s σ H Q I h
  refine isTrue_or (thn (ha pins s σ H _ I h) fun c s1 ⟨H1, I1, q1⟩ => ?_)
  cases c with
  | true => exact ⟨H1, I1, q1⟩
  | false => exact hb wh pins s1 σ H1 Q I1 q1
theorem pt_not (ha : PT X a tA) : PT X (.UnaryOp .Not a pos) (tNot tA) := by
  intro pins s σ H Q I h
  exact isTrue_not (ha pins s σ H (fun c H1 => Q (!c) H1) I h)
/-- .. as values (bools) -/
def tAndV (ta tb : TE) : TE := fun σ H Q => ta σ H fun x H1 => ∃ c, x = .bl c ∧ if c = true then tb σ H1 Q else Q (.bl false) H1
def tNotV (ta : TE) : TE := fun σ H Q => ta σ H fun x H1 => ∃ c, x = .bl c ∧ Q (.bl (!c)) H1
theorem pe_one {op} {t : TE} (h : PE X a t) : PE X (.BoolOp op [a] pos) t := fun pins s σ H Q I hw => BoolOp_one (h pins s σ H Q I hw)
theorem pe_and (ha : PE X a ta) (hb : PE X (.BoolOp .And (b :: rest) pos) tb) : PE X (.BoolOp .And (a :: b :: rest) pos) (tAndV ta tb) := by
  intro pins s σ H Q I h
  refine BoolOp_and (thn (ha pins s σ H _ I h) fun v s1 ⟨x, H1, I1, r1, q1⟩ => ?_)
  obtain ⟨c, rfl, q1⟩ := q1
  cases r1
  refine wpAny_truthy_bool ?_
  cases c with
  | true => exact hb pins s1 σ H1 Q I1 q1
  | false => exact ⟨.bl false, H1, I1, rfl, q1⟩
theorem pe_not (ha : PE X a ta) : PE X (.UnaryOp .Not a pos) (tNotV ta) := by
  intro pins s σ H Q I h
  refine UnaryOp_ (thn (ha pins s σ H _ I h) fun v s1 ⟨x, H1, I1, r1, q1⟩ => ?_)
  obtain ⟨c, rfl, q1⟩ := q1
  cases r1
  exact not_of (wpAny_truthy_bool ⟨.bl (!c), H1, I1, rfl, q1⟩)
end
end L2

namespace L2
open PySem PySem.Spec PyProof.Rows

/-! ### a list, a tuple that is read: tracked, frozen, or an object of the module -/
def SqL (K : PySem.W.Frag) (H : Hp) (a : Addr) (xs : List V) : Prop :=
  Rd H a (.lst xs) ∨
    ∃ (o : Obj) (its : Array Value) (n : Nat), K.lookup a = some o ∧ o.cls = .type "list" ∧ o.dict = none ∧ o.data = .seq its n ∧ its.size ≤ sizeLine ∧ Vals xs its.toList
def SqT (K : PySem.W.Frag) (H : Hp) (a : Addr) (xs : List V) : Prop :=
  Rd H a (.tup xs) ∨
    ∃ (o : Obj) (its : Array Value) (n : Nat), K.lookup a = some o ∧ o.cls = .type "tuple" ∧ o.data = .seq its n ∧ its.size ≤ sizeLine ∧ Vals xs its.toList
def absV : Value → Option V
  | .none => some .non
  | .bool b => some (.bl b)
  | .int i _ => some (.int i)
  | .str x _ => some (.str x)
  | .bytes b _ => some (.byt b)
  | .float b _ => some (.flt b)
  | .ref a => some (.ref a)
  | .type n => some (.ty n)
  | _ => none
theorem RelV.abs {x : V} {u : Value} (r : RelV x u) : absV u = some x := by
  cases x with
  | non => cases r; rfl
  | bl _ => cases r; rfl
  | int _ => obtain ⟨t, rfl⟩ := r; rfl
  | str _ => obtain ⟨t, rfl⟩ := r; rfl
  | byt _ => obtain ⟨t, rfl⟩ := r; rfl
  | flt _ => obtain ⟨t, rfl⟩ := r; rfl
  | ref _ => cases r; rfl
  | ty _ => cases r; rfl
theorem RelV.inj {x y : V} {u : Value} (r : RelV x u) (q : RelV y u) : x = y := Option.some.inj (r.abs.symm.trans q.abs)
theorem Vals.inj : ∀ {xs ys : List V} {us : List Value}, Vals xs us → Vals ys us → xs = ys
  | _, _, _, .nil, .nil => rfl
  | _, _, _, .cons r t, .cons r' t' => by rw [r.inj r', Vals.inj t t']
section
variable {X : Cx} {pins : List (Addr × Obj)} {σ : St} {H : Hp} {s : Shared} {a : Addr} {xs ys : List V}
theorem SqL.of {K : PySem.W.Frag} (h : H a = some (.lst xs)) : SqL K H a xs := .inl (.inl h)
theorem SqT.of {K : PySem.W.Frag} (h : H a = some (.tup xs)) : SqT K H a xs := .inl (.inl h)
theorem Inv.list (I : Inv X pins σ H s) (h : SqL X.K H a xs) : ∃ its : List Value, Vals xs its ∧ PlainL s.heap a its.toArray ∧ xs.length ≤ sizeLine := by
  rcases h with h | ⟨o, its, n, hk, hc, hd, hs, hz, r⟩
  · obtain ⟨z, its, n, r, e⟩ := h.ok I.hok
    exact ⟨its, r, ⟨_, n, e, rfl, rfl, rfl⟩, z⟩
  · refine ⟨its.toList, r, ⟨o, n, I.kIn a o hk, hc, hd, by simpa using hs⟩, ?_⟩
    have e := r.length
    simp only [Array.length_toList] at e
    omega
theorem Inv.tuple (I : Inv X pins σ H s) (h : SqT X.K H a xs) : ∃ its : List Value, Vals xs its ∧ IsTup s.heap a its.toArray ∧ xs.length ≤ sizeLine := by
  rcases h with h | ⟨o, its, n, hk, hc, hs, hz, r⟩
  · obtain ⟨z, its, r, p⟩ := h.ok I.hok
    exact ⟨its, r, p, z⟩
  · refine ⟨its.toList, r, ⟨o, I.kIn a o hk, hc, n, by simpa using hs⟩, ?_⟩
    have e := r.length
    simp only [Array.length_toList] at e
    omega
theorem Inv.list_inj (I : Inv X pins σ H s) (h : SqL X.K H a xs) (h' : SqL X.K H a ys) : xs = ys := by
  obtain ⟨its, r, ⟨o, n, e, _, _, d⟩, _⟩ := I.list h
  obtain ⟨its', r', ⟨o', n', e', _, _, d'⟩, _⟩ := I.list h'
  rw [e] at e'; cases e'
  rw [d] at d'
  injection d' with d1 _
  have : its = its' := by simpa using congrArg Array.toList d1
  subst this
  exact r.inj r'
end

/-! ### another wish about exceptions -/
abbrev Cx.wish (X : Cx) (E : Value → Shared → Prop) : Cx := { X with xe := E }
/-- no exception leaves -/
abbrev Cx.nox (X : Cx) : Cx := X.wish fun _ _ => False
theorem Cx.Ok.wish {X : Cx} (ok : X.Ok) (E : Value → Shared → Prop) : (X.wish E).Ok :=
  ⟨ok.mod, ok.kind, ok.glob, ok.blt, ok.above, ok.inj, ok.has, ok.cab, ok.hd, ok.frames, ok.stk, ok.exf, ok.bs, ok.bsz, ok.noex, ok.exfs, ok.funs, ok.frf⟩
theorem Cx.Ok.unwish {X : Cx} {E : Value → Shared → Prop} (ok : (X.wish E).Ok) : X.Ok :=
  ⟨ok.mod, ok.kind, ok.glob, ok.blt, ok.above, ok.inj, ok.has, ok.cab, ok.hd, ok.frames, ok.stk, ok.exf, ok.bs, ok.bsz, ok.noex, ok.exfs, ok.funs, ok.frf⟩
section
variable {X : Cx} {pins : List (Addr × Obj)} {σ : St} {H : Hp} {s : Shared} {E : Value → Shared → Prop}
theorem Inv.wish (I : Inv X pins σ H s) (E : Value → Shared → Prop) : Inv (X.wish E) pins σ H s := ⟨I.ok.wish E, I.os, I.bare, I.base, I.loc, I.cell, I.free, I.freeC, I.pin, I.hok, I.len⟩
theorem Inv.unwish (I : Inv (X.wish E) pins σ H s) : Inv X pins σ H s := ⟨I.ok.unwish, I.os, I.bare, I.base, I.loc, I.cell, I.free, I.freeC, I.pin, I.hok, I.len⟩
theorem SP.unwish {D : Ends} {f : Flow} {s' : Shared} (h : SP (X.wish E) pins D f s') : SP X pins D f s' := by
  cases f with
  | next => obtain ⟨σ', H', I, q⟩ := h; exact ⟨σ', H', I.unwish, q⟩
  | brk => obtain ⟨σ', H', I, q⟩ := h; exact ⟨σ', H', I.unwish, q⟩
  | cont => obtain ⟨σ', H', I, q⟩ := h; exact ⟨σ', H', I.unwish, q⟩
  | ret u => obtain ⟨v, σ', H', I, r, q⟩ := h; exact ⟨v, σ', H', I.unwish, r, q⟩
theorem PE.nox {e : Expr} {t : TE} (h : PE X.nox e t) : PE X e t := fun pins s σ H Q I hw =>
  wpAny_mono (h pins s σ H Q (I.wish _) hw) (fun _ _ ⟨v, H', I', r, q⟩ => ⟨v, H', I'.unwish, r, q⟩) fun _ _ z => False.elim z
theorem PT.nox {e : Expr} {t : TT} (h : PT X.nox e t) : PT X e t := fun pins s σ H Q I hw =>
  wpAny_mono (h pins s σ H Q (I.wish _) hw) (fun _ _ ⟨H', I', q⟩ => ⟨H', I'.unwish, q⟩) fun _ _ z => False.elim z
theorem PSs.nox {st : List Stmt} {t : TS} (h : PSs X.nox st t) : PSs X st t := fun pins s σ H D I hw =>
  wpAny_mono (h pins s σ H D (I.wish _) hw) (fun _ _ q => q.unwish) fun _ _ z => False.elim z
end

/-! ### blocks and small statements -/
section
variable {X : Cx} {st : Stmt} {rest : List Stmt} {t u : TS} {e : Expr} {te : TE} {pos : Pos}
def tNext : TS := fun D σ H => D.nx σ H
def tSeq (t u : TS) : TS := fun D σ H => t { D with nx := u D } σ H
theorem pss_nil : PSs X [] tNext := fun _ _ σ H _ I h => wpAny_execs_nil ⟨σ, H, I, h⟩
theorem pss_cons (h1 : PS X st t) (h2 : PSs X rest u) : PSs X (st :: rest) (tSeq t u) := by
  intro pins s σ H D I h
  refine wpAny_execs_cons (thn (h1 pins s σ H { D with nx := u D } I h) fun f s1 q => ?_)
  cases f with
  | next =>
    obtain ⟨σ', H', I', q⟩ := q
    exact h2 pins s1 σ' H' D I' q
  | ret v => exact q
  | brk => exact q
  | cont => exact q
theorem pss_one (h1 : PS X st t) : PSs X [st] t := by
  intro pins s σ H D I h
  refine wpAny_execs_cons (thn (h1 pins s σ H D I h) fun f s1 q => ?_)
  cases f with
  | next => exact wpAny_execs_nil q
  | ret v => exact q
  | brk => exact q
  | cont => exact q
/-- in a def's body nothing is shown -/
theorem Inv.quiet {pins : List (Addr × Obj)} {σ : St} {H : Hp} {s : Shared} (I : Inv X pins σ H s) : interactive X.env = false := by simp [interactive, I.ok.kind]
/-- an expression whose value is dropped -/
def tDrop (te : TE) : TS := fun D σ H => te σ H fun _ H1 => D.nx σ H1
theorem ps_expr (he : PE X e te) (hs : swapsWith e none pos.line X.env = pure false := by rfl) : PS X (.Expr e pos) (tDrop te) := by
  intro pins s σ H D I h
  exact wpAny_Expr_any (thn (he pins s σ H _ I h) fun v s1 ⟨x, H1, I1, r1, q1⟩ => ⟨σ, H1, I1, q1⟩) I.quiet hs
def tRet (te : TE) : TS := fun D σ H => te σ H D.rt
theorem ps_ret (he : PE X e te) : PS X (.Return (some e) pos) (tRet te) := by
  intro pins s σ H D I h
  exact wpAny_Return_some (thn (he pins s σ H _ I h) fun v s1 ⟨x, H1, I1, r1, q1⟩ => ⟨x, σ, H1, I1, r1, q1⟩)
def tIfS (c : TT) (t u : TS) : TS := fun D σ H => c σ H fun b H1 => if b = true then t D σ H1 else u D σ H1
theorem ps_if {c : Expr} {a b : List Stmt} {tc : TT} (hc : PT X c tc) (ha : PSs X a t) (hb : PSs X b u) : PS X (.If c a b pos) (tIfS tc t u) := by
  intro pins s σ H D I h
  refine wpAny_If (thn (hc pins s σ H _ I h) fun d s1 ⟨H1, I1, q1⟩ => ?_)
  cases d with
  | true => exact ha pins s1 σ H1 D I1 q1
  | false => exact hb pins s1 σ H1 D I1 q1
end

/-! ### targets -/
abbrev TG := V → St → Hp → (St → Hp → Prop) → Prop
abbrev TGs := List V → St → Hp → (St → Hp → Prop) → Prop
def PG (X : Cx) (target : Expr) (t : TG) : Prop :=
  ∀ (pins : List (Addr × Obj)) (s : Shared) (σ : St) (H : Hp) (v : V) (u : Value) (Q : St → Hp → Prop), Inv X pins σ H s → RelV v u → t v σ H Q →
    wpAny (model X.prog X.w) X.A (assign target X.env u) (fun _ s' => ∃ σ' H', Inv X pins σ' H' s' ∧ Q σ' H') X.xe s
/-- several targets, one after another -/
def PGs (X : Cx) (ts : List Expr) (t : TGs) : Prop :=
  ∀ (pins : List (Addr × Obj)) (s : Shared) (σ : St) (H : Hp) (vs : List V) (us : List Value) (Q : St → Hp → Prop), Inv X pins σ H s → Vals vs us → t vs σ H Q →
    wpAny (model X.prog X.w) X.A (assignInOrder ((assignEach ts X.env).map (·.2)) us) (fun _ s' => ∃ σ' H', Inv X pins σ' H' s' ∧ Q σ' H') X.xe s
section
variable {X : Cx} {pos : Pos}
def gName (i : Nat) : TG := fun v σ H Q => Q (σ.set i (some v)) H
theorem pg_name {i : Nat} {x : Str} (hN : X.N.Nodup) (hi : X.N[i]? = some x) (hx : Loc X.env.scope x) (hf : X.fn x = true ∨ X.env.scope.names.lookup x = some .local := by first | exact .inl rfl | exact .inr rfl | assumption) : PG X (.Name x pos) (gName i) := by
  intro pins s σ H v u Q I r h
  exact wpAny_assign_Name (store_ok I hN hi hx r (fun s' I' => ⟨_, H, I', h⟩) hf)
def gNil : TGs := fun vs σ H Q => vs = [] ∧ Q σ H
def gCons (t : TG) (u : TGs) : TGs := fun vs σ H Q => ∃ v r, vs = v :: r ∧ t v σ H fun σ' H' => u r σ' H' Q
theorem pgs_nil : PGs X [] gNil := by
  intro pins s σ H vs us Q I r h
  obtain ⟨e, h⟩ := h
  subst e
  cases r
  exact assignInOrder_nil ⟨σ, H, I, h⟩
theorem pgs_cons {e : Expr} {es : List Expr} {t : TG} {u : TGs} (h1 : PG X e t) (h2 : PGs X es u)
    (hs : (assignEach (e :: es) X.env).map (·.2) = assign e X.env :: (assignEach es X.env).map (·.2) := by rfl) : PGs X (e :: es) (gCons t u) := by
  intro pins s σ H vs us Q I r h
  obtain ⟨v, vr, e1, h⟩ := h
  subst e1
  cases r with
  | cons r rr =>
    rw [hs]
    refine assignInOrder_cons (thn (h1 pins s σ H _ _ _ I r h) fun _ s1 ⟨σ1, H1, I1, q1⟩ => ?_)
    exact h2 pins s1 σ1 H1 _ _ Q I1 rr q1
/-- target = value -/
def tAsg (te : TE) (g : TG) : TS := fun D σ H => te σ H fun x H1 => g x σ H1 D.nx
/-- name = value -/
theorem ps_set {i : Nat} {x : Str} {e : Expr} {te : TE} {pos' : Pos} (hN : X.N.Nodup) (hi : X.N[i]? = some x) (hx : Loc X.env.scope x) (he : PE X e te) (hs : swapsWith e (some (.Name x pos')) pos.line X.env = pure false := by rfl) (hf : X.fn x = true ∨ X.env.scope.names.lookup x = some .local := by first | exact .inl rfl | exact .inr rfl | assumption) :
    PS X (.Assign [.Name x pos'] e pos) (tAsg te (gName i)) := by
  intro pins s σ H D I h
  refine wpAny_Assign_Name (thn (he pins s σ H _ I h) fun v s1 ⟨y, H1, I1, r1, q1⟩ => ?_) hs
  exact store_ok I1 hN hi hx r1 (fun s2 I2 => ⟨_, H1, I2, q1⟩) hf
end

/-! ### while -/
section
variable {X : Cx} {pos : Pos}
/-- the invariant W with its measure -/
def tWhile (c : TT) (tb : TS) : TS := fun D σ H => ∃ W : Nat → St → Hp → Prop, (∃ m, W m σ H) ∧ ∀ m σ H, W m σ H →
  c σ H fun b H1 => if b = true then ∃ N : St → Hp → Prop, (∀ σ' H', N σ' H' → ∃ m', m' < m ∧ W m' σ' H') ∧ tb { D with nx := N, ct := N, bk := D.nx } σ H1 else D.nx σ H1
theorem ps_while {c : Expr} {body : List Stmt} {tc : TT} {tb : TS} (hp : PassesOwn (model X.prog X.w) X.A X.env X.xe) (hc : PT X c tc) (hb : PSs X body tb) : PS X (.While c body [] pos) (tWhile tc tb) := by
  intro pins s σ H D I h
  obtain ⟨W, ⟨m0, w0⟩, turn⟩ := h
  refine wpAny_While (codeAny_whileLoop (fun n s' => ∃ σ' H', Inv X pins σ' H' s' ∧ W n σ' H') ?_ m0 ⟨σ, H, I, w0⟩)
  rintro n s1 ⟨σ1, H1, I1, w1⟩
  refine wpAny_passesOwn hp (thn (hc pins s1 σ1 H1 _ I1 (turn n σ1 H1 w1)) fun b s2 ⟨H2, I2, q2⟩ => ?_)
  cases b with
  | true =>
    obtain ⟨N, hN, q2⟩ := q2
    rw [if_pos rfl]
    refine wpAny_passesOwn hp (thn (hb pins s2 σ1 H2 _ I2 q2) fun f s3 q3 => ?_)
    cases f with
    | next =>
      obtain ⟨σ3, H3, I3, n3⟩ := q3
      obtain ⟨m', hm, w3⟩ := hN σ3 H3 n3
      exact ⟨m', hm, σ3, H3, I3, w3⟩
    | cont =>
      obtain ⟨σ3, H3, I3, n3⟩ := q3
      obtain ⟨m', hm, w3⟩ := hN σ3 H3 n3
      exact ⟨m', hm, σ3, H3, I3, w3⟩
    | brk => exact q3
    | ret v => exact q3
  | false =>
    rw [if_neg Bool.false_ne_true]
    exact wpAny_execs_nil ⟨σ1, H2, I2, q2⟩
end

/-! ### what a loop or a comprehension walks -/
/-- at turn i: it yields x (the heap may grow), or it stops -/
structure It where
  go : Nat → Hp → Prop
  yld : Nat → Hp → V → Hp → Prop
  stop : Nat → Hp → Prop
/-- the iterator's own objects may turn: they are not the frame's, not pinned, younger than the entry (or a comprehension's own) -/
def FpOk (X : Cx) (pins : List (Addr × Obj)) (H : Hp) (b : Addr) : Prop :=
  H b = none ∧ b ≠ X.env.locals ∧ b ∉ X.fs ∧ (b ∈ X.ex ∨ X.s₀.heap.objs.size ≤ b) ∧ (∀ x c, X.env.cells.lookup x = some c → c ≠ b) ∧ ∀ p ∈ X.pn ++ pins, p.1 ≠ b
theorem Inv.fpOk {X : Cx} {pins : List (Addr × Obj)} {σ : St} {H H' : Hp} {s : Shared} {b : Addr} (I : Inv X pins σ H s) (hb : s.heap.objs.size ≤ b) (hn : H' b = none) : FpOk X pins H' b := by
  refine ⟨hn, Nat.ne_of_gt (Nat.lt_of_lt_of_le I.lt hb), I.nofs hb, .inr (Nat.le_trans I.sz hb), fun x c e z => ?_, fun p hp z => ?_⟩
  · obtain ⟨v, q⟩ := I.cell x c e
    exact absurd (Nat.lt_of_lt_of_le q.lt (by rw [z]; exact hb)) (Nat.lt_irrefl _)
  · exact absurd (Nat.lt_of_lt_of_le (Heap.lt_size (I.pin p hp).1) (by rw [z]; exact hb)) (Nat.lt_irrefl _)
structure Turn (P : Program) (w : World) (K : PySem.W.Frag) (tg : Expr) (J : It) (fp : List Addr) (it : Addr) (tn : Nat → Heap → Prop) : Prop where
  mem : it ∈ fp
  obj : ∀ i h, tn i h → ∀ b ∈ fp, ∃ o, h.get? b = some o ∧ ∀ v, o.data ≠ .cell v
  keep : ∀ i h h', tn i h → (∀ b ∈ fp, ∀ o, h.get? b = some o → h'.get? b = some o) → tn i h'
  item : ∀ (X : Cx), X.prog = P → X.w = w → X.K = K → X.calm = true → ∀ (i : Nat) (pins : List (Addr × Obj)) (s : Shared) (σ : St) (H : Hp) (E : Value → Shared → Prop), Inv X pins σ H s → (∀ b ∈ fp, FpOk X pins H b) → tn i s.heap → J.go i H →
    wpAny (model P w) X.A (pyNext (.ref it)) (fun r s1 => ∃ u, r = some u ∧
      wpAny (model P w) X.A (letOwnedTupleGo tg (.ref it) u) (fun _ s2 => ∃ x H', Inv X pins σ H' s2 ∧ RelV x u ∧ J.yld i H x H' ∧ tn (i + 1) s2.heap ∧ ∀ b ∈ fp, H' b = none) E s1) E s
  done : ∀ (X : Cx), X.prog = P → X.w = w → X.K = K → X.calm = true → ∀ (i : Nat) (pins : List (Addr × Obj)) (s : Shared) (σ : St) (H : Hp) (E : Value → Shared → Prop), Inv X pins σ H s → (∀ b ∈ fp, FpOk X pins H b) → tn i s.heap → J.stop i H →
    wpAny (model P w) X.A (pyNext (.ref it)) (fun r s1 => r = none ∧ Inv X pins σ H s1) E s
  self : ∀ (A : Around) (i : Nat) (s : Shared) (Q : Value → Shared → Prop) (E : Value → Shared → Prop), tn i s.heap → Q (.ref it) s → wpAny (model P w) A (pyIter (.ref it)) Q E s
abbrev TI := St → Hp → (It → Hp → Prop) → Prop
/-- an iterator has come -/
def PIE (X : Cx) (pins : List (Addr × Obj)) (σ : St) (tg : Expr) (R : It → Hp → Prop) (itv : Value) (s2 : Shared) : Prop :=
  ∃ (it : Addr) (fp : List Addr) (tn : Nat → Heap → Prop) (J : It) (H' : Hp), itv = .ref it ∧ Inv X pins σ H' s2 ∧ Turn X.prog X.w X.K tg J fp it tn ∧ tn 0 s2.heap ∧ (∀ b ∈ fp, FpOk X pins H' b) ∧ R J H'
def PI (X : Cx) (tg iter : Expr) (wi : TI) : Prop :=
  ∀ (pins : List (Addr × Obj)) (s : Shared) (σ : St) (H : Hp) (R : It → Hp → Prop), Inv X pins σ H s → wi σ H R →
    wpAny (model X.prog X.w) X.A (eval iter X.env) (fun v s1 => wpAny (model X.prog X.w) X.A (pyIter v) (PIE X pins σ tg R) X.xe s1) X.xe s

/-- the step ahead of the store is nothing for an iterator that keeps no tuple -/
theorem go_of {M : Model} {A : Around} {E : Value → Shared → Prop} {s : Shared} {tg : Expr} {it : Addr} {u : Value} {o : Obj} {n : String} {vs : Array Value} {Q : Unit → Shared → Prop} (ho : s.heap.get? it = some o) (hc : o.cls = .type n) (hd : o.data = .fields vs)
    (hn : ["enumerate", "zip", "dict_itemiterator", "dict_reverseitemiterator", "odict_iterator", "itertools.zip_longest", "itertools.pairwise"].contains n = false) (hQ : Q () s) : wpAny M A (letOwnedTupleGo tg (.ref it) u) Q E s := by
  unfold letOwnedTupleGo
  cases tg <;> first
    | exact wpAny_pure hQ
    | (cases u <;> first
        | exact wpAny_pure hQ
        | (refine wpAny_bind (wpAny_load ho ?_)
           rw [hc, hd]
           show wpAny M A (if (["enumerate", "zip", "dict_itemiterator", "dict_reverseitemiterator", "odict_iterator", "itertools.zip_longest", "itertools.pairwise"].contains n && vs[0]? == some (rawInt _)) = true then _ else _) Q E s
           rw [if_neg (by intro h; rw [hn, Bool.false_and] at h; cases h)]
           exact wpAny_pure hQ))

/-- the list at a, as it stands at each turn (a loop may append to it) -/
def Itl (K : PySem.W.Frag) (a : Addr) : It :=
  ⟨fun i H => ∃ xs x, SqL K H a xs ∧ xs[i]? = some x, fun i H x H' => H' = H ∧ ∀ xs, SqL K H a xs → xs[i]? = some x, fun i H => ∃ xs, SqL K H a xs ∧ xs.length ≤ i⟩
/-- lo, lo + 1, .. (n of them) -/
def Itr (lo : Int) (n : Nat) : It := ⟨fun i _ => i < n, fun i H x H' => H' = H ∧ x = .int (lo + i), fun i _ => n ≤ i⟩
theorem turn_list {P : Program} {w : World} {K : PySem.W.Frag} {tg : Expr} (a it : Addr) : Turn P w K tg (Itl K a) [it] it (fun i h => h.IsListIter it a i) where
  mem := by simp
  obj := fun i h st b hb => by
    have e : b = it := by simpa using hb
    subst e
    obtain ⟨o, e, c, d⟩ := st
    exact ⟨o, e, fun v z => by rw [d] at z; cases z⟩
  keep := fun i h h' st k => st.at fun o e => k it (by simp) o e
  item := by
    intro X hP hw hK hc i pins s σ H E I hf st hg
    subst hP hw hK
    obtain ⟨xs, x, hq, hx⟩ := hg
    obtain ⟨its, rv, p, hz⟩ := I.list hq
    obtain ⟨u, hu, ru⟩ := rv.get hx
    obtain ⟨f0, f1, f2, f3, f4, f5⟩ := hf it (by simp)
    refine wpAny_pyNext_list_item st p.isList (x := u) (by simpa using hu) fun h' st' sb => ?_
    have I1 : Inv X pins σ H { s with heap := h' } := I.turned (t' := s.toks) (fun b o hb e => (sb.2 b hb).trans e) f0 f1 f3 f4 f5
    obtain ⟨o, e, c, d⟩ := id st'
    exact ⟨u, rfl, go_of (s := { s with heap := h' }) e c d (by decide) ⟨x, H, I1, ru, ⟨rfl, fun ys hy => by rw [I.list_inj hy hq]; exact hx⟩, st', fun b hb => (hf b hb).1⟩⟩
  done := by
    intro X hP hw hK hc i pins s σ H E I hf st hg
    subst hP hw hK
    obtain ⟨xs, hq, hx⟩ := hg
    obtain ⟨its, rv, p, hz⟩ := I.list hq
    obtain ⟨f0, f1, f2, f3, f4, f5⟩ := hf it (by simp)
    have hl := rv.length
    exact wpAny_pyNext_list_end (I.ok.hd hc) st p.isList (by simp; omega) fun h' eb => ⟨rfl, I.turned (t' := s.toks) (fun b o hb e => eb b o hb e) f0 f1 f3 f4 f5⟩
  self := fun _ _ _ _ _ st h => wpAny_pyIter_listiter st h
theorem turn_range {P : Program} {w : World} {K : PySem.W.Frag} {tg : Expr} (it : Addr) (lo : Int) (n : Nat) : Turn P w K tg (Itr lo n) [it] it (fun i h => IsRangeIter h it (lo + (i : Nat) * 1) ((n : Int) - (i : Nat)) 1) where
  mem := by simp
  obj := fun i h st b hb => by
    have e : b = it := by simpa using hb
    subst e
    exact ⟨_, st, fun v z => by
      have z' : Data.fields _ = Data.cell v := z
      cases z'⟩
  keep := fun i h h' st k => k it (by simp) _ st
  item := by
    intro X hP hw hK hc i pins s σ H E I hf st hg
    subst hP hw hK
    obtain ⟨f0, f1, f2, f3, f4, f5⟩ := hf it (by simp)
    have W := Walks.range (prog := X.prog) (w := X.w) (I.ok.hd hc) it lo 1 n
    refine W.item i s _ _ hg st fun v h' tk hv st' kk => ?_
    obtain ⟨t, rfl⟩ := hv
    have I1 : Inv X pins σ H { s with heap := h', toks := tk } := I.turned (fun b o hb e => kk b o (by simpa using hb) e) f0 f1 f3 f4 f5
    refine ⟨_, rfl, go_of (s := { s with heap := h', toks := tk }) (n := "range_iterator") st' rfl rfl (by decide) ⟨.int (lo + i), H, I1, ⟨t, ?_⟩, ⟨rfl, rfl⟩, st', fun b hb => (hf b hb).1⟩⟩
    rw [Int.mul_one]
  done := by
    intro X hP hw hK hc i pins s σ H E I hf st hg
    subst hP hw hK
    obtain ⟨f0, f1, f2, f3, f4, f5⟩ := hf it (by simp)
    exact wpAny_pyNext_range_end (I.ok.hd hc) st (by have : n ≤ i := hg; omega) fun h' eb => ⟨rfl, I.turned (t' := s.toks) (fun b o hb e => eb b o hb e) f0 f1 f3 f4 f5⟩
  self := fun _ _ _ _ _ st h => wpAny_pyIter_rangeiter st h
end L2

namespace L2
open PySem PySem.Spec PyProof.Rows
section
variable {X : Cx} {tg : Expr}
def iList (K : PySem.W.Frag) (tl : TE) : TI := fun σ H R => tl σ H fun x H1 => ∃ a, x = .ref a ∧ (∃ xs, SqL K H1 a xs) ∧ R (Itl K a) H1
theorem pi_list {l : Expr} {tl : TE} (hl : PE X l tl) : PI X tg l (iList X.K tl) := by
  intro pins s σ H R I h
  refine thn (hl pins s σ H _ I h) fun v s1 ⟨x, H1, I1, r1, q1⟩ => ?_
  obtain ⟨a, e, ⟨xs, hq⟩, q⟩ := q1
  subst e
  cases r1
  obtain ⟨its, rv, p, hz⟩ := I1.list hq
  refine wpAny_pyIter_list p.isList ?_
  refine ⟨s1.heap.objs.size, [s1.heap.objs.size], _, _, H1, rfl, I1.kept (t' := s1.toks) fun b o e => Heap.get?_push_of_some _ e, turn_list a _, ⟨_, Heap.get?_push_size _ rfl, rfl, rfl⟩, fun b hb => ?_, q⟩
  have e : b = s1.heap.objs.size := by simpa using hb
  subst e
  exact I1.fpOk (Nat.le_refl _) (I1.hok.fresh (Nat.le_refl _))
/-- a range object just made, walked -/
theorem range_it {pins : List (Addr × Obj)} {σ : St} {H : Hp} {s : Shared} {R : It → Hp → Prop} {E : Value → Shared → Prop} {lo hi : Int} {t u v : Tok} {tk : Nat} (I : Inv X pins σ H s) (h1 : -(2 ^ 62) ≤ lo) (h2 : lo < 2 ^ 62) (h3 : -(2 ^ 62) ≤ hi) (h4 : hi < 2 ^ 62)
    (q : R (Itr lo (hi - lo).toNat) H) : wpAny (model X.prog X.w) X.A (pyIter (.ref s.heap.objs.size)) (PIE X pins σ tg R) E { s with heap := s.heap.push { cls := .type "range", data := .fields #[.int lo t, .int hi u, .int 1 v] }, toks := tk } := by
  refine wpAny_pyIter_range (IsRange.new ..) (small_one h1 h2 h3 h4) ?_
  have I1 : Inv X pins σ H { s with heap := s.heap.push { cls := .type "range", data := .fields #[.int lo t, .int hi u, .int 1 v] }, toks := tk } := I.kept fun b o e => Heap.get?_push_of_some _ e
  refine ⟨(s.heap.push { cls := .type "range", data := .fields #[.int lo t, .int hi u, .int 1 v] }).objs.size, [(s.heap.push { cls := .type "range", data := .fields #[.int lo t, .int hi u, .int 1 v] }).objs.size], _, _, H, rfl,
    I1.kept (t' := tk) fun b o e => Heap.get?_push_of_some _ e, turn_range _ lo (hi - lo).toNat, ?_, fun b hb => ?_, q⟩
  · have e1 : lo + ((0 : Nat) : Int) * 1 = lo := by simp
    have e2 : (((hi - lo).toNat : Nat) : Int) - ((0 : Nat) : Int) = Builtin.Range.rangeSize lo hi 1 := by rw [rangeSize_one]; split <;> omega
    show IsRangeIter _ _ (lo + ((0 : Nat) : Int) * 1) ((((hi - lo).toNat : Nat) : Int) - ((0 : Nat) : Int)) 1
    rw [e1, e2]
    exact Heap.get?_push_size _ rfl
  · have e : b = (s.heap.push { cls := .type "range", data := .fields #[.int lo t, .int hi u, .int 1 v] }).objs.size := by simpa using hb
    subst e
    exact I1.fpOk (Nat.le_refl _) (I1.hok.fresh (Nat.le_refl _))
def iRng1 (ta : TA) : TI := fun σ H R => ta σ H fun vs H1 => ∃ j : Int, vs = [.int j] ∧ -(2 ^ 62) ≤ j ∧ j < 2 ^ 62 ∧ R (Itr 0 j.toNat) H1
def iRng2 (ta : TA) : TI := fun σ H R => ta σ H fun vs H1 => ∃ i j : Int, vs = [.int i, .int j] ∧ (-(2 ^ 62) ≤ i ∧ i < 2 ^ 62 ∧ -(2 ^ 62) ≤ j ∧ j < 2 ^ 62) ∧ R (Itr i (j - i).toNat) H1
theorem pi_range1 {a : Expr} {ta : TA} {p pos : Pos} (hg : Gl X "range") (hm : X.mg "range" = none) (ha : PA X [a] ta) (hs : starEach [a] X.env = [(false, eval a X.env)] := by rfl) : PI X tg (.Call (.Name "range" p) [a] [] pos) (iRng1 ta) := by
  intro pins s σ H R I h
  refine Call_ (ld_blt I hg hm boot_range (PyProof.Rows.callWith_type1 (thn (ha pos pins s σ H _ I h) fun us s1 ⟨vs, H1, I1, r1, q1⟩ => ?_) hs rfl))
  obtain ⟨j, e, q1, q2, q⟩ := q1
  subst e
  cases r1 with
  | cons r rr =>
    cases rr
    obtain ⟨t, rfl⟩ := r
    exact call_range_1 (range_it I1 (by omega) (by omega) q1 q2 (by simpa using q))
theorem pi_range2 {a b : Expr} {ta : TA} {p pos : Pos} (hg : Gl X "range") (hm : X.mg "range" = none) (ha : PA X [a, b] ta) (hs : starEach [a, b] X.env = [(false, eval a X.env), (false, eval b X.env)] := by rfl) (hs2 : starEach [b] X.env = [(false, eval b X.env)] := by rfl) :
    PI X tg (.Call (.Name "range" p) [a, b] [] pos) (iRng2 ta) := by
  intro pins s σ H R I h
  refine Call_ (ld_blt I hg hm boot_range (PyProof.Rows.callWith_type1 (thn (ha pos pins s σ H _ I h) fun us s1 ⟨vs, H1, I1, r1, q1⟩ => ?_) (by rw [hs, hs2]) (by rw [hs2]; rfl)))
  obtain ⟨i, j, e, ⟨q1, q2, q3, q4⟩, q⟩ := q1
  subst e
  cases r1 with
  | cons r rr =>
    cases rr with
    | cons r' rr =>
      cases rr
      obtain ⟨t, rfl⟩ := r
      obtain ⟨t', rfl⟩ := r'
      exact call_range_2 (range_it I1 q1 q2 q3 q4 q)

/-! ### for -/
/-- W: the invariant by the turn and a measure; N: what the body is to reach -/
def tFor (wi : TI) (g : TG) (tb : TS) : TS := fun D σ H => wi σ H fun J H1 => ∃ W : Nat → Nat → St → Hp → Prop, (∃ m, W 0 m σ H1) ∧ ∀ i m σ H, W i m σ H →
  (J.stop i H ∧ D.nx σ H) ∨ (J.go i H ∧ ∃ N : St → Hp → Prop, (∀ σ' H', N σ' H' → ∃ m', m' < m ∧ W (i + 1) m' σ' H') ∧ ∀ x H', J.yld i H x H' → g x σ H' fun σ2 H2 => tb { D with nx := N, ct := N, bk := D.nx } σ2 H2)
/-- the records at fp as they stand -/
def pinsAt (fp : List Addr) (h : Heap) : List (Addr × Obj) := fp.filterMap fun b => (h.get? b).map fun o => (b, o)
theorem mem_pinsAt {fp : List Addr} {h : Heap} {b : Addr} {o : Obj} (hb : b ∈ fp) (e : h.get? b = some o) : (b, o) ∈ pinsAt fp h := List.mem_filterMap.mpr ⟨b, hb, by rw [e]; rfl⟩
theorem of_pinsAt {fp : List Addr} {h : Heap} {p : Addr × Obj} (hp : p ∈ pinsAt fp h) : p.1 ∈ fp ∧ h.get? p.1 = some p.2 := by
  obtain ⟨b, hb, e⟩ := List.mem_filterMap.mp hp
  cases q : h.get? b with
  | none => rw [q] at e; cases e
  | some o =>
    rw [q] at e
    have e' : (b, o) = p := Option.some.inj e
    subst e'
    exact ⟨hb, q⟩
theorem Inv.pinned {pins : List (Addr × Obj)} {σ : St} {H : Hp} {s : Shared} {fp : List Addr} (I : Inv X pins σ H s) (hf : ∀ b ∈ fp, FpOk X pins H b) (ho : ∀ b ∈ fp, ∃ o, s.heap.get? b = some o ∧ ∀ v, o.data ≠ .cell v) : Inv X (pins ++ pinsAt fp s.heap) σ H s :=
  I.pins_of fun p hp => (List.mem_append.mp hp).elim (fun z => I.pin p (List.mem_append_right _ z)) fun z => by
    obtain ⟨hb, e⟩ := of_pinsAt z
    obtain ⟨f0, f1, f2, _⟩ := hf p.1 hb
    obtain ⟨o, e', d⟩ := ho p.1 hb
    rw [e] at e'; cases e'
    exact ⟨e, f0, f1, f2, d⟩
theorem Inv.unpinned {pins pl : List (Addr × Obj)} {σ : St} {H : Hp} {s : Shared} (I : Inv X (pins ++ pl) σ H s) : Inv X pins σ H s := I.pins_of fun p hp => I.pin p (List.mem_append_right _ (List.mem_append_left _ hp))
theorem ps_for {iter : Expr} {body : List Stmt} {wi : TI} {g : TG} {tb : TS} {pos : Pos} (hp : PassesOwn (model X.prog X.w) X.A X.env X.xe) (hc : X.calm = true) (hi : PI X tg iter wi) (hg : PG X tg g) (hb : PSs X body tb)
    (hs : ∀ x, foldedSetIterable iter X.env x = pure x := by intro _; rfl) : PS X (.For tg iter body [] pos) (tFor wi g tb) := by
  intro pins s σ H D I h
  refine wpAny_For (thn (hi pins s σ H _ I h) fun v s1 h1 => thn h1 fun itv s2 h2 => ?_) hs
  obtain ⟨it, fp, tn, J, H2, e, I2, T, st2, f2, W, ⟨m0, w0⟩, turn⟩ := h2
  subst e
  -- what stays true of the iterator's objects through the loop
  have stat : ∀ {H' : Hp}, (∀ b ∈ fp, H' b = none) → ∀ b ∈ fp, FpOk X pins H' b := fun hn b hb => ⟨hn b hb, (f2 b hb).2⟩
  refine codeAny_forLoop_any (fun n s' => ∃ i σ' H', Inv X pins σ' H' s' ∧ tn i s'.heap ∧ (∀ b ∈ fp, H' b = none) ∧ W i n σ' H') ?_ m0 ⟨0, σ, H2, I2, st2, fun b hb => (f2 b hb).1, w0⟩
  rintro n s3 ⟨i, σ3, H3, I3, st3, fr3, w3⟩
  rcases turn i n σ3 H3 w3 with ⟨stop, qn⟩ | ⟨go, N, hN, step⟩
  · refine wpAny_passesOwn hp (thn (T.done X rfl rfl rfl hc i pins s3 σ3 H3 X.xe I3 (stat fr3) st3 stop) fun r s4 ⟨hr, I4⟩ => ?_)
    subst hr
    exact wpAny_execs_nil ⟨σ3, H3, I4, qn⟩
  · refine wpAny_passesOwn hp (thn (T.item X rfl rfl rfl hc i pins s3 σ3 H3 X.xe I3 (stat fr3) st3 go) fun r s4 ⟨u, hr, h4⟩ => ?_)
    subst hr
    refine wpAny_passesOwn hp (thn h4 fun _ s5 ⟨x, H5, I5, r5, y5, st5, fr5⟩ => ?_)
    have I5' := I5.pinned (stat fr5) (T.obj _ _ st5)
    refine wpAny_passesOwn hp (thn (hg _ s5 σ3 H5 x u _ I5' r5 (step x H5 y5)) fun _ s6 ⟨σ6, H6, I6, q6⟩ => ?_)
    refine wpAny_passesOwn hp (thn (hb _ s6 σ6 H6 _ I6 q6) fun f s7 q7 => ?_)
    have again : ∀ {σ7 : St} {H7 : Hp}, Inv X (pins ++ pinsAt fp s5.heap) σ7 H7 s7 → N σ7 H7 → ∃ m, m < n ∧ ∃ i σ' H', Inv X pins σ' H' s7 ∧ tn i s7.heap ∧ (∀ b ∈ fp, H' b = none) ∧ W i m σ' H' := fun {σ7 H7} I7 n7 => by
      obtain ⟨m', hm, w7⟩ := hN σ7 H7 n7
      refine ⟨m', hm, i + 1, σ7, H7, I7.unpinned, T.keep _ _ _ st5 fun b hb o e => (I7.pin (b, o) (List.mem_append_right _ (List.mem_append_right _ (mem_pinsAt hb e)))).1, fun b hb => ?_, w7⟩
      obtain ⟨o, e, d⟩ := T.obj _ _ st5 b hb
      exact (I7.pin (b, o) (List.mem_append_right _ (List.mem_append_right _ (mem_pinsAt hb e)))).2.1
    cases f with
    | next => obtain ⟨σ7, H7, I7, n7⟩ := q7; exact again I7 n7
    | cont => obtain ⟨σ7, H7, I7, n7⟩ := q7; exact again I7 n7
    | brk => obtain ⟨σ7, H7, I7, q7⟩ := q7; exact ⟨σ7, H7, I7.unpinned, q7⟩
    | ret v => obtain ⟨x7, σ7, H7, I7, r7, q7⟩ := q7; exact ⟨x7, σ7, H7, I7.unpinned, r7, q7⟩
end

/-! ### the forms one uses -/
end L2

namespace L2
open PySem PySem.Spec PyProof.Rows

abbrev R2 := V → V → Hp → VK → Prop
/-- a two-place operation on values: f is binaryOp op, inplaceOp op or compareOp op -/
def OpR (X : Cx) (f : Value → Value → Sem Value) (r : R2) : Prop :=
  ∀ (pins : List (Addr × Obj)) (s : Shared) (σ : St) (H : Hp) (x y : V) (v u : Value) (Q : VK), Inv X pins σ H s → RelV x v → RelV y u → r x y H Q →
    wpAny (model X.prog X.w) X.A (f v u) (EP X pins σ Q) X.xe s
/-- a one-place operation -/
def UnR (X : Cx) (f : Value → Sem Value) (r : V → Hp → VK → Prop) : Prop :=
  ∀ (pins : List (Addr × Obj)) (s : Shared) (σ : St) (H : Hp) (x : V) (v : Value) (Q : VK), Inv X pins σ H s → RelV x v → r x H Q →
    wpAny (model X.prog X.w) X.A (f v) (EP X pins σ Q) X.xe s
/-- a call of a value that is known (a builtin, a type) with values -/
def CallR (X : Cx) (f : Value) (r : List V → Hp → VK → Prop) : Prop :=
  ∀ (pins : List (Addr × Obj)) (s : Shared) (σ : St) (H : Hp) (xs : List V) (us : List Value) (Q : VK), Inv X pins σ H s → Vals xs us → r xs H Q →
    wpAny (model X.prog X.w) X.A (call f us) (EP X pins σ Q) X.xe s
def tOp (r : R2) (ta tb : TE) : TE := fun σ H Q => ta σ H fun x H1 => tb σ H1 fun y H2 => r x y H2 Q
def tUn (r : V → Hp → VK → Prop) (ta : TE) : TE := fun σ H Q => ta σ H fun x H1 => r x H1 Q
/-- ints in, under C, and a value out -/
def rI (C : Int → Int → Prop) (g : Int → Int → V) : R2 := fun x y H Q => ∃ i j, x = .int i ∧ y = .int j ∧ C i j ∧ Q (g i j) H
def rI0 (g : Int → Int → V) : R2 := fun x y H Q => ∃ i j, x = .int i ∧ y = .int j ∧ Q (g i j) H
def rU (g : Int → V) : V → Hp → VK → Prop := fun x H Q => ∃ i, x = .int i ∧ Q (g i) H

section
variable {X : Cx} {a b c : Expr} {ta tb tc : TE} {pos : Pos}

theorem binT (ha : PE X a ta) (hb : PE X b tb) {pins : List (Addr × Obj)} {s : Shared} {σ : St} {H : Hp} {R : V → V → Hp → Prop} (I : Inv X pins σ H s)
    (h : ta σ H fun x H1 => tb σ H1 fun y H2 => R x y H2) {Q : Value → Shared → Prop} {f : Value → Value → Sem Value}
    (hf : ∀ v u s2 x y H2, Inv X pins σ H2 s2 → RelV x v → RelV y u → R x y H2 → wpAny (model X.prog X.w) X.A (f v u) Q X.xe s2) :
    wpAny (model X.prog X.w) X.A (eval a X.env) (fun v s₁ => wpAny (model X.prog X.w) X.A (eval b X.env) (fun u s₂ => wpAny (model X.prog X.w) X.A (f v u) Q X.xe s₂) X.xe s₁) X.xe s := by
  refine thn (ha pins s σ H _ I h) fun v s1 ⟨x, H1, I1, r1, q1⟩ => ?_
  refine thn (hb pins s1 σ H1 _ I1 q1) fun u s2 ⟨y, H2, I2, r2, q2⟩ => ?_
  exact hf v u s2 x y H2 I2 r1 r2 q2

theorem pe_op {op : Operator} {r : R2} (ho : OpR X (binaryOp op) r) (ha : PE X a ta) (hb : PE X b tb) : PE X (.BinOp a op b pos) (tOp r ta tb) := by
  intro pins s σ H Q I h
  exact wpAny_BinOp (binT ha hb I h fun v u s2 x y H2 I2 rx ry q => ho pins s2 σ H2 x y v u Q I2 rx ry q)
theorem pe_un {op : UnaryOp} {r : V → Hp → VK → Prop} (ho : UnR X (unaryOp op) r) (ha : PE X a ta) : PE X (.UnaryOp op a pos) (tUn r ta) := by
  intro pins s σ H Q I h
  exact UnaryOp_ (thn (ha pins s σ H _ I h) fun v s1 ⟨x, H1, I1, r1, q1⟩ => ho pins s1 σ H1 x v Q I1 r1 q1)
/-! ### ints -/
theorem opI {f : Value → Value → Sem Value} {C : Int → Int → Prop} {g : Int → Int → Int}
    (rule : ∀ (i j : Int) (t u : Tok) (s : Shared) (Q : Value → Shared → Prop) (E : Value → Shared → Prop), C i j → Q (.int (g i j) s.toks) { s with toks := s.toks + 1 } → wpAny (model X.prog X.w) X.A (f (.int i t) (.int j u)) Q E s) :
    OpR X f (rI C fun i j => .int (g i j)) := by
  intro pins s σ H x y v u Q I rx ry h
  obtain ⟨i, j, rfl, rfl, hc, q⟩ := h
  obtain ⟨t, rfl⟩ := rx
  obtain ⟨t', rfl⟩ := ry
  exact rule i j t t' s _ _ hc ⟨.int (g i j), H, I.tok _, ⟨_, rfl⟩, q⟩
theorem opI0 {f : Value → Value → Sem Value} {g : Int → Int → Int}
    (rule : ∀ (i j : Int) (t u : Tok) (s : Shared) (Q : Value → Shared → Prop) (E : Value → Shared → Prop), Q (.int (g i j) s.toks) { s with toks := s.toks + 1 } → wpAny (model X.prog X.w) X.A (f (.int i t) (.int j u)) Q E s) :
    OpR X f (rI0 fun i j => .int (g i j)) := by
  intro pins s σ H x y v u Q I rx ry h
  obtain ⟨i, j, rfl, rfl, q⟩ := h
  obtain ⟨t, rfl⟩ := rx
  obtain ⟨t', rfl⟩ := ry
  exact rule i j t t' s _ _ ⟨.int (g i j), H, I.tok _, ⟨_, rfl⟩, q⟩
theorem opB0 {f : Value → Value → Sem Value} {g : Int → Int → Bool}
    (rule : ∀ (i j : Int) (t u : Tok) (s : Shared) (Q : Value → Shared → Prop) (E : Value → Shared → Prop), Q (.bool (g i j)) s → wpAny (model X.prog X.w) X.A (f (.int i t) (.int j u)) Q E s) :
    OpR X f (rI0 fun i j => .bl (g i j)) := by
  intro pins s σ H x y v u Q I rx ry h
  obtain ⟨i, j, rfl, rfl, q⟩ := h
  obtain ⟨t, rfl⟩ := rx
  obtain ⟨t', rfl⟩ := ry
  exact rule i j t t' s _ _ ⟨.bl (g i j), H, I, rfl, q⟩

def CDiv (i j : Int) : Prop := 0 < j ∧ j < 1073741824
def CMul (i j : Int) : Prop := (-(2 ^ 64) < i ∧ i < 2 ^ 64) ∨ (-(2 ^ 64) < j ∧ j < 2 ^ 64)
theorem CMul.ok {i j : Int} (h : CMul i j) : IntMulOk i j := by
  rcases h with ⟨h1, h2⟩ | ⟨h1, h2⟩
  · exact .of_left (intBits_le_64 h1 h2)
  · exact .of_right (intBits_le_64 h1 h2)
theorem op_sub : OpR X (binaryOp .Sub) (rI0 fun i j => .int (i - j)) := opI0 fun _ _ _ _ _ _ _ q => sub_int q
/-- // by a positive divisor -/
theorem op_fdiv : OpR X (binaryOp .FloorDiv) (rI CDiv fun i j => .int (i / j)) := opI fun i j _ _ _ _ _ hc q => by
  have h1 : (0 : Int) < j := hc.1
  have h2 : j < 1073741824 := hc.2
  exact floordiv_int (by omega) (by rw [Int.fdiv_eq_ediv_of_nonneg i (by omega)]; exact q) (.inl (PyProof.noPylong_small (by omega)))
/-- % by a positive divisor of any size -/
theorem op_mod : OpR X (binaryOp .Mod) (rI (fun _ j => 0 < j) fun i j => .int (i % j)) := opI fun i j _ _ _ _ _ hc q => by
  have h1 : (0 : Int) < j := hc
  exact mod_int' (by omega) (by rw [Int.fmod_eq_emod_of_nonneg i (by omega)]; exact q)
theorem unI {f : Value → Sem Value} {g : Int → Int}
    (rule : ∀ (i : Int) (t : Tok) (s : Shared) (Q : Value → Shared → Prop) (E : Value → Shared → Prop), Q (.int (g i) s.toks) { s with toks := s.toks + 1 } → wpAny (model X.prog X.w) X.A (f (.int i t)) Q E s) :
    UnR X f (rU fun i => .int (g i)) := by
  intro pins s σ H x v Q I rx h
  obtain ⟨i, rfl, q⟩ := h
  obtain ⟨t, rfl⟩ := rx
  exact rule i t s _ _ ⟨.int (g i), H, I.tok _, ⟨_, rfl⟩, q⟩
theorem un_neg : UnR X (unaryOp .USub) (rU fun i => .int (-i)) := unI fun _ _ _ _ _ q => neg_int q
/-! ### bools among ints: n += (a < b) -/
end

/-! ### comparisons -/
/-- the scalars that == tells apart as data does -/
def scal : V → V → Bool
  | .non, .non => true | .non, .int _ => true | .int _, .non => true | .non, .bl _ => true | .bl _, .non => true | .non, .str _ => true | .str _, .non => true
  | .int _, .int _ => true | .bl _, .bl _ => true | .str _, .str _ => true | .byt _, .byt _ => true
  | .int _, .str _ => true | .str _, .int _ => true | .bl _, .str _ => true | .str _, .bl _ => true
  | _, _ => false
def rEq : R2 := fun x y H Q => scal x y = true ∧ Q (.bl (decide (x = y))) H
def rNe : R2 := fun x y H Q => scal x y = true ∧ Q (.bl (!decide (x = y))) H

theorem dec_int {i j : Int} : decide (V.int i = V.int j) = (i == j) := by
  rw [Bool.eq_iff_iff]
  simp
theorem dec_bl {i j : Bool} : decide (V.bl i = V.bl j) = (i == j) := by
  rw [Bool.eq_iff_iff]
  simp
theorem dec_str {i j : Str} : decide (V.str i = V.str j) = (i == j) := by
  rw [Bool.eq_iff_iff]
  simp
theorem dec_byt {i j : Array UInt8} : decide (V.byt i = V.byt j) = (i.toList == j.toList) := by
  rw [Bool.eq_iff_iff]
  cases i
  cases j
  simp

section
variable {X : Cx} {a b c : Expr} {ta tb tc : TE} {pos : Pos}
theorem fin_bl {pins : List (Addr × Obj)} {σ : St} {H : Hp} {s : Shared} {Q : VK} {k k' : Bool} (I : Inv X pins σ H s) (q : Q (.bl k) H) (e : k = k') : EP X pins σ Q (.bool k') s := by
  subst e
  exact ⟨.bl k, H, I, rfl, q⟩
theorem op_eq : OpR X (compareOp .Eq) rEq := by
  intro pins s σ H x y v u Q I rx ry h
  obtain ⟨hs, q⟩ := h
  cases x with
  | non =>
    cases rx
    cases y with
    | non => cases ry; exact PySem.EqNone.eq_none_none (fin_bl I q (by simp))
    | bl j => cases ry; exact PySem.EqNone.eq_none_bool (fin_bl I q (by simp))
    | int j => obtain ⟨t', rfl⟩ := ry; exact PySem.EqNone.eq_none_int (fin_bl I q (by simp))
    | str j => obtain ⟨t', rfl⟩ := ry; exact PySem.EqNone.eq_none_str (fin_bl I q (by simp))
    | _ => exact absurd (show false = true from hs) Bool.false_ne_true
  | bl i =>
    cases rx
    cases y with
    | non => cases ry; exact PySem.EqNone.eq_bool_none (fin_bl I q (by simp))
    | bl j => cases ry; exact eq_bool (fin_bl I q dec_bl)
    | str j => obtain ⟨t', rfl⟩ := ry; exact PySem.EqMixed.eq_bool_str (fin_bl I q (by simp))
    | _ => exact absurd (show false = true from hs) Bool.false_ne_true
  | int i =>
    obtain ⟨t, rfl⟩ := rx
    cases y with
    | non => cases ry; exact PySem.EqNone.eq_int_none (fin_bl I q (by simp))
    | int j => obtain ⟨t', rfl⟩ := ry; exact eq_int (fin_bl I q dec_int)
    | str j => obtain ⟨t', rfl⟩ := ry; exact PySem.EqMixed.eq_int_str (fin_bl I q (by simp))
    | _ => exact absurd (show false = true from hs) Bool.false_ne_true
  | str i =>
    obtain ⟨t, rfl⟩ := rx
    cases y with
    | non => cases ry; exact PySem.EqNone.eq_str_none (fin_bl I q (by simp))
    | bl j => cases ry; exact PySem.EqMixed.eq_str_bool (fin_bl I q (by simp))
    | int j => obtain ⟨t', rfl⟩ := ry; exact PySem.EqMixed.eq_str_int (fin_bl I q (by simp))
    | str j => obtain ⟨t', rfl⟩ := ry; exact eq_str (fin_bl I q dec_str)
    | _ => exact absurd (show false = true from hs) Bool.false_ne_true
  | byt i =>
    obtain ⟨t, rfl⟩ := rx
    cases y with
    | byt j => obtain ⟨t', rfl⟩ := ry; exact PySem.W.eq_bytes (fin_bl I q dec_byt)
    | _ => exact absurd (show false = true from hs) Bool.false_ne_true
  | _ => cases y <;> exact absurd (show false = true from hs) Bool.false_ne_true
theorem op_ne : OpR X (compareOp .NotEq) rNe := by
  intro pins s σ H x y v u Q I rx ry h
  obtain ⟨hs, q⟩ := h
  cases x with
  | non =>
    cases rx
    cases y with
    | non => cases ry; exact PySem.EqNone.ne_none_none (fin_bl I q (by simp))
    | bl j => cases ry; exact PySem.EqNone.ne_none_bool (fin_bl I q (by simp))
    | int j => obtain ⟨t', rfl⟩ := ry; exact PySem.EqNone.ne_none_int (fin_bl I q (by simp))
    | str j => obtain ⟨t', rfl⟩ := ry; exact PySem.EqNone.ne_none_str (fin_bl I q (by simp))
    | _ => exact absurd (show false = true from hs) Bool.false_ne_true
  | bl i =>
    cases rx
    cases y with
    | non => cases ry; exact PySem.EqNone.ne_bool_none (fin_bl I q (by simp))
    | bl j => cases ry; exact ne_bool (fin_bl I q (congrArg not dec_bl))
    | str j => obtain ⟨t', rfl⟩ := ry; exact PySem.EqMixed.ne_bool_str (fin_bl I q (by simp))
    | _ => exact absurd (show false = true from hs) Bool.false_ne_true
  | int i =>
    obtain ⟨t, rfl⟩ := rx
    cases y with
    | non => cases ry; exact PySem.EqNone.ne_int_none (fin_bl I q (by simp))
    | int j => obtain ⟨t', rfl⟩ := ry; exact ne_int (fin_bl I q (congrArg not dec_int))
    | str j => obtain ⟨t', rfl⟩ := ry; exact PySem.EqMixed.ne_int_str (fin_bl I q (by simp))
    | _ => exact absurd (show false = true from hs) Bool.false_ne_true
  | str i =>
    obtain ⟨t, rfl⟩ := rx
    cases y with
    | non => cases ry; exact PySem.EqNone.ne_str_none (fin_bl I q (by simp))
    | bl j => cases ry; exact PySem.EqMixed.ne_str_bool (fin_bl I q (by simp))
    | int j => obtain ⟨t', rfl⟩ := ry; exact PySem.EqMixed.ne_str_int (fin_bl I q (by simp))
    | str j => obtain ⟨t', rfl⟩ := ry; exact ne_str (fin_bl I q (congrArg not dec_str))
    | _ => exact absurd (show false = true from hs) Bool.false_ne_true
  | byt i =>
    obtain ⟨t, rfl⟩ := rx
    cases y with
    | byt j => obtain ⟨t', rfl⟩ := ry; exact PySem.W.ne_bytes (fin_bl I q (congrArg not dec_byt))
    | _ => exact absurd (show false = true from hs) Bool.false_ne_true
  | _ => cases y <;> exact absurd (show false = true from hs) Bool.false_ne_true

theorem op_lt : OpR X (compareOp .Lt) (rI0 fun i j => .bl (decide (i < j))) := opB0 fun _ _ _ _ _ _ _ q => lt_int q
theorem op_le : OpR X (compareOp .LtE) (rI0 fun i j => .bl (decide (i ≤ j))) := opB0 fun _ _ _ _ _ _ _ q => le_int q
theorem op_gt : OpR X (compareOp .Gt) (rI0 fun i j => .bl (decide (j < i))) := opB0 fun _ _ _ _ _ _ _ q => gt_int q
theorem op_ge : OpR X (compareOp .GtE) (rI0 fun i j => .bl (decide (j ≤ i))) := opB0 fun _ _ _ _ _ _ _ q => ge_int q
/-- the one string within the other -/
theorem op_in_str : OpR X (compareOp .In) (fun x y H Q => ∃ i j, x = .str i ∧ y = .str j ∧ Q (.bl (!(Builtin.Str.occurrences j i 0 j.length 1).isEmpty)) H) := by
  intro pins s σ H x y v u Q I rx ry h
  obtain ⟨i, j, rfl, rfl, q⟩ := h
  obtain ⟨t, rfl⟩ := rx
  obtain ⟨t', rfl⟩ := ry
  exact in_str (fin_bl I q rfl)

/-- two rules for one operation: by cases -/
theorem OpR.or {f : Value → Value → Sem Value} {r r' : R2} (h : OpR X f r) (h' : OpR X f r') : OpR X f (fun x y H Q => r x y H Q ∨ r' x y H Q) := by
  intro pins s σ H x y v u Q I rx ry q
  rcases q with q | q
  · exact h pins s σ H x y v u Q I rx ry q
  · exact h' pins s σ H x y v u Q I rx ry q

theorem nomark (b : Expr) {op : CmpOp} (h : op ≠ .In := by decide) (h2 : op ≠ .NotIn := by decide) : behindInMarks op b = false := by
  have e1 : (op == CmpOp.In) = false := by cases op <;> first | rfl | exact absurd rfl h
  have e2 : (op == CmpOp.NotIn) = false := by cases op <;> first | rfl | exact absurd rfl h2
  cases b <;> simp [behindInMarks, e1, e2]
/-- a comparison as a value; hm: nomark b, or (for in, not in) by with_unfolding_all rfl -/
theorem pe_cmpR {op : CmpOp} {r : R2} (ho : OpR X (compareOp op) r) (ha : PE X a ta) (hb : PE X b tb) (hm : behindInMarks op b = false) : PE X (.Compare a [op] [b] pos) (tOp r ta tb) := by
  intro pins s σ H Q I h
  exact wpAny_Compare1 (binT ha hb I h fun v u s2 x y H2 I2 rx ry q => ho pins s2 σ H2 x y v u Q I2 rx ry q) hm
/-- a reading of a value as a test -/
def tTest (t : TE) : TT := fun σ H Q => t σ H fun x H' => ∃ k, x = .bl k ∧ Q k H'
theorem pt_cmpR {op : CmpOp} {r : R2} (ho : OpR X (compareOp op) r) (ha : PE X a ta) (hb : PE X b tb) (hm : behindInMarks op b = false) : PT X (.Compare a [op] [b] pos) (tTest (tOp r ta tb)) := by
  intro pins s σ H Q I h
  refine wpAny_isTrue_Compare1 (thn (ha pins s σ H _ I h) fun v s1 ⟨x, H1, I1, r1, q1⟩ => thn (hb pins s1 σ H1 _ I1 q1) fun u s2 ⟨y, H2, I2, r2, q2⟩ =>
    thn (ho pins s2 σ H2 x y v u _ I2 r1 r2 q2) fun c s3 ⟨z, H3, I3, r3, k, e, q3⟩ => ?_) hm
  subst e
  cases r3
  exact wpAny_truthy_bool ⟨H3, I3, q3⟩
/-- a op1 b op2 c -/
def tChain (r r' : R2) (ta tb tc : TE) : TE := fun σ H Q => ta σ H fun x H1 => tb σ H1 fun y H2 => r x y H2 fun z H3 => ∃ k, z = .bl k ∧
  (if k = true then tc σ H3 fun w' H4 => r' y w' H4 Q else Q (.bl false) H3)
theorem pe_chain {op op' : CmpOp} {r r' : R2} (ho : OpR X (compareOp op) r) (ho' : OpR X (compareOp op') r') (ha : PE X a ta) (hb : PE X b tb) (hc : PE X c tc)
    (hm : lastMarks [op, op'] [b, c] = false := by with_unfolding_all rfl) : PE X (.Compare a [op, op'] [b, c] pos) (tChain r r' ta tb tc) := by
  intro pins s σ H Q I h
  refine Compare_chain (thn (ha pins s σ H _ I h) fun v s1 ⟨x, H1, I1, r1, q1⟩ => chain_link (thn (hb pins s1 σ H1 _ I1 q1) fun u s2 ⟨y, H2, I2, r2, q2⟩ =>
    thn (ho pins s2 σ H2 x y v u _ I2 r1 r2 q2) fun d s3 ⟨z, H3, I3, r3, k, e, q3⟩ => ?_)) hm
  subst e
  cases r3
  refine wpAny_truthy_bool ?_
  cases k with
  | false => exact ite_ff ⟨.bl false, H3, I3, rfl, q3⟩
  | true => exact ite_tt (chain_last (thn (hc pins s3 σ H3 _ I3 q3) fun w' s4 ⟨z', H4, I4, r4, q4⟩ => ho' pins s4 σ H4 y z' u w' Q I4 r2 r4 q4))
theorem pt_chain {op op' : CmpOp} {r r' : R2} (ho : OpR X (compareOp op) r) (ho' : OpR X (compareOp op') r') (ha : PE X a ta) (hb : PE X b tb) (hc : PE X c tc)
    (hm : lastMarks [op, op'] [b, c] = false := by with_unfolding_all rfl) : PT X (.Compare a [op, op'] [b, c] pos) (tTest (tChain r r' ta tb tc)) := by
  intro pins s σ H Q I h
  refine isTrue_chain (thn (ha pins s σ H _ I h) fun v s1 ⟨x, H1, I1, r1, q1⟩ => test_link (thn (hb pins s1 σ H1 _ I1 q1) fun u s2 ⟨y, H2, I2, r2, q2⟩ =>
    thn (ho pins s2 σ H2 x y v u _ I2 r1 r2 q2) fun d s3 ⟨z, H3, I3, r3, k, e, q3⟩ => ?_)) hm
  subst e
  cases r3
  refine wpAny_truthy_bool ?_
  cases k with
  | false =>
    obtain ⟨k', e', q'⟩ := q3
    cases e'
    exact ite_ff ⟨H3, I3, q'⟩
  | true =>
    refine ite_tt (test_last (thn (hc pins s3 σ H3 _ I3 q3) fun w' s4 ⟨z', H4, I4, r4, q4⟩ => thn (ho' pins s4 σ H4 y z' u w' _ I4 r2 r4 q4) fun d' s5 ⟨z2, H5, I5, r5, k2, e2, q5⟩ => ?_))
    subst e2
    cases r5
    exact wpAny_truthy_bool ⟨H5, I5, q5⟩

/-! ### truth -/
theorem line63 : (sizeLine : Nat) < 2 ^ 63 := by rw [sizeLine_eq]; decide
/-! ### strs and bytes -/
/-! ### scalar builtins, by CallR -/
theorem vals1 {x : V} {us : List Value} (r : Vals [x] us) : ∃ u, us = [u] ∧ RelV x u := by
  cases r with
  | cons r1 r2 => cases r2; exact ⟨_, rfl, r1⟩
theorem vals2 {x y : V} {us : List Value} (r : Vals [x, y] us) : ∃ u w', us = [u, w'] ∧ RelV x u ∧ RelV y w' := by
  cases r with
  | cons r1 r2 =>
    cases r2 with
    | cons r3 r4 => cases r4; exact ⟨_, _, rfl, r1, r3⟩
end
end L2

namespace L2
open PySem PySem.Spec PyProof.Rows

/-! ### an instance, its attributes a map -/
structure ObjM (h : Heap) (x dx C : Addr) (mA : Str → Option Value) : Prop where
  obj : h.get? x = some (PySem.W.instObj C dx)
  ns : h.Ns1 dx mA
  ne : dx ≠ x

theorem lookIn_ns {h : Heap} {dx : Addr} {mA : Str → Option Value} (n : h.Ns1 dx mA) : ∃ od, h.get? dx = some od ∧ ∀ name, PySem.W.lookIn name od = some (mA name) := by
  obtain ⟨o, es, ep, ho, hd, hk, _, hm⟩ := n
  refine ⟨o, ho, fun name => ?_⟩
  have e := hm name
  unfold nsFind findBy at e
  rw [← Array.find?_toList] at e
  unfold PySem.W.lookIn
  rw [hd]
  dsimp only
  split
  · rename_i y q
    rw [q] at e
    exact congrArg some e
  · rename_i q
    rw [q] at e
    have a : es.toList.any (·.refKey) = false := by
      rw [List.any_eq_false]
      intro y hy
      obtain ⟨z, t, hkey⟩ := hk y (Array.mem_toList_iff.mp hy)
      simp [DictEntry.refKey, hkey]
    have a' : ¬ es.toList.any (·.refKey) = true := by rw [a]; exact Bool.false_ne_true
    rw [if_neg a']
    exact congrArg some e

theorem ObjM.look {h : Heap} {x dx C : Addr} {mA : Str → Option Value} (I : ObjM h x dx C mA) : ∃ od, PySem.W.InstAt h x (PySem.W.instObj C dx) C (some od) ∧ ∀ name, PySem.W.lookIn name od = some (mA name) :=
  let ⟨od, ho, hl⟩ := lookIn_ns I.ns
  ⟨od, ⟨I.obj, rfl, rfl, ho⟩, hl⟩

section
variable {prog : Program} {w : World} {A : Around} {E : Value → Shared → Prop} {s : Shared} {K : PySem.W.Frag} {x dx C f : Addr} {mA : Str → Option Value} {name : Str} {v : Value}

theorem get_map {expr : Bool} {Q : Value → Shared → Prop} (X : K.In s.heap) (I : ObjM s.heap x dx C mA) (hg : PySem.W.plainGet K C name = true) (hh : PySem.W.hasDictIn K C = true)
    (ha : PySem.W.findIn K (.ref C) name = some none) (hv : mA name = some v) (hv' : PySem.W.handedIn v = true) (h : Q v { s with toks := s.toks + 1 }) :
    wpAny (model prog w) A (getAttr (.ref x) name expr) Q E s := by
  obtain ⟨od, J, hl⟩ := I.look
  exact PySem.W.get_value X J (PySem.W.plainGet_of hg).1 (PySem.W.findObj_own hh ha rfl (by rw [hl, hv])) hv' h

theorem get_meth {pl : Sem Bool} {Q : Value × List Value → Shared → Prop} (X : K.In s.heap) (I : ObjM s.heap x dx C mA) (hg : PySem.W.plainGet K C name = true)
    (hf : PySem.W.findIn K (.ref C) name = some (some (.ref f))) (ht : PySem.W.isFn K (.ref f) = true) (hv : mA name = none) (h : Q (.ref f, [.ref x]) s) :
    wpAny (model prog w) A (getMethod (.ref x) name pl) Q E s := by
  obtain ⟨od, J, hl⟩ := I.look
  exact PySem.W.method_fn X J (PySem.W.plainGet_of hg).1 (PySem.W.plainGet_of hg).2 hf (beq_iff_eq.mp ht) (by show (PySem.W.lookIn name od).map (·.isSome) = some false; rw [hl, hv]; rfl) h

theorem set_map {ns : List Str} {Q : Unit → Shared → Prop} (X : K.In s.heap) (I : ObjM s.heap x dx C mA)
    (hs : PySem.W.findIn K (.ref C) "__setattr__" = some (some (.builtin "object.__setattr__"))) (hp : PySem.W.plainOver K C = true) (ht : PySem.W.takerIn K C name = some none) (hh : PySem.W.hasDictIn K C = true)
    (hw : PySem.Within mA ns) (hsz : ns.length ≤ sizeLine)
    (h : ∀ h', ObjM h' x dx C (fun y => if y = name then some v else mA y) → Heap.SameBut dx s.heap h' → Q () { s with heap := h', toks := s.toks + 2 }) :
    wpAny (model prog w) A (setAttr (.ref x) name v) Q E s := by
  obtain ⟨od, J, hl⟩ := I.look
  refine PySem.W.set_plain X J hs (PySem.W.osa_open (s := { s with toks := s.toks + 1 }) (r := none) X J hp ht fun b => ?_)
  obtain ⟨cd, hc, hd'⟩ := PySem.W.any_some hh
  have hx : s.heap.get? x = some ⟨.ref C, some dx, .plain, #[]⟩ := I.obj
  refine wpAny_bind (wpAny_pure (wpAny_bind (wpAny_bind (wpAny_loadPart hx (wpAny_bind (PySem.W.Looks.here (s := { s with toks := s.toks + 1 }) (PySem.W.looks_clsIn X hc) ?_))))))
  rw [hd']
  refine wpAny_pure (a := some dx) (wpAny_bind (wpAny_pure (wpAny_bind ?_)))
  refine wpAny_nsSet1 (s := { s with toks := s.toks + 1 }) I.ns fun h' hn2 hs2 => ?_
  obtain ⟨oD, esD, epD, hoD, hdD, hcD⟩ := hn2.count (PySem.Within.cons name v hw)
  refine wpAny_bind (wpAny_lookBehind hoD (by rw [hdD]; exact pastItsLine_dict (Nat.le_trans hcD (by rw [List.length_cons]; omega))) ?_)
  exact wpAny_pure (h _ ⟨(hs2.2 _ (Ne.symm I.ne)).trans I.obj, hn2, I.ne⟩ hs2)

/-- C(..): the dict at the heap's end, the instance behind it; then its __init__ -/
theorem make_map {R : Result → Shared → Prop} {vs : List Value} {kw : List (Str × Value)} (X : K.In s.heap) (hm : PySem.W.makesIn K C = true)
    (hi : PySem.W.findIn K (.ref C) "__init__" = some (some (.ref f))) (hf : PySem.W.typeIn K (.ref f) = some (.type "function"))
    (h : codeAny (model prog w) (A.under (.builtin "type.__call__" ⟨.ref C :: vs, kw⟩)) (.call (.ref f) ⟨.ref (s.heap.objs.size + 1) :: vs, kw⟩) (PySem.W.InitBack (s.heap.objs.size + 1) R)
      { s with heap := (s.heap.push PySem.W.emptyDict).push (PySem.W.instObj C s.heap.objs.size) }) :
    codeAny (model prog w) A (.call (.ref C) ⟨vs, kw⟩) R s := by
  obtain ⟨hh, g, d, t, os⟩ := s
  exact PySem.W.make_core (PySem.W.makes_of X hm) (PySem.W.looks_findIn X hi) (fun self => PySem.W.bind_fn X self hf) (.inl rfl) h
end

/-! ### the attributes as a list of pairs -/
def putF (f : Str) (v : V) : List (Str × V) → List (Str × V)
  | [] => [(f, v)]
  | (g, x) :: r => if g = f then (g, v) :: r else (g, x) :: putF f v r
theorem lookup_putF (f g : Str) (v : V) : ∀ fs : List (Str × V), (putF f v fs).lookup g = if g = f then some v else fs.lookup g
  | [] => by
    show List.lookup g [(f, v)] = _
    by_cases h : g = f
    · have hb : (g == f) = true := beq_iff_eq.mpr h
      simp only [List.lookup, hb, if_pos h]
    · have hb : (g == f) = false := beq_eq_false_iff_ne.mpr h
      simp only [List.lookup, hb, if_neg h]
  | (k, x) :: r => by
    have ih := lookup_putF f g v r
    rw [show putF f v ((k, x) :: r) = (if k = f then (k, v) :: r else (k, x) :: putF f v r) from rfl]
    by_cases hk : k = f
    · rw [if_pos hk]
      by_cases h : g = k
      · have hb : (g == k) = true := beq_iff_eq.mpr h
        simp only [List.lookup, hb, if_pos (h.trans hk)]
      · have hb : (g == k) = false := beq_eq_false_iff_ne.mpr h
        simp only [List.lookup, hb, if_neg (fun e : g = f => h (e.trans hk.symm))]
    · rw [if_neg hk]
      by_cases h : g = k
      · have hb : (g == k) = true := beq_iff_eq.mpr h
        simp only [List.lookup, hb, if_neg (fun e : g = f => hk (h.symm.trans e))]
      · have hb : (g == k) = false := beq_eq_false_iff_ne.mpr h
        simp only [List.lookup, hb]
        exact ih
theorem keys_putF (f : Str) (v : V) : ∀ fs : List (Str × V), f ∈ (putF f v fs).map (·.1) ∧ ∀ g, g ∈ fs.map (·.1) → g ∈ (putF f v fs).map (·.1)
  | [] => ⟨by simp [putF], fun g h => by simp at h⟩
  | (k, x) :: r => by
    obtain ⟨i1, i2⟩ := keys_putF f v r
    rw [show putF f v ((k, x) :: r) = (if k = f then (k, v) :: r else (k, x) :: putF f v r) from rfl]
    by_cases hk : k = f
    · rw [if_pos hk]
      subst hk
      exact ⟨by simp, fun g h => by simpa using h⟩
    · rw [if_neg hk]
      refine ⟨?_, fun g h => ?_⟩
      · rw [List.map_cons]
        exact List.mem_cons_of_mem _ i1
      · rw [List.map_cons] at h ⊢
        rcases List.mem_cons.mp h with e | e
        · exact List.mem_cons.mpr (.inl e)
        · exact List.mem_cons_of_mem _ (i2 g e)
theorem length_putF (f : Str) (v : V) : ∀ fs : List (Str × V), (putF f v fs).length ≤ fs.length + 1
  | [] => by simp [putF]
  | (k, x) :: r => by
    have ih := length_putF f v r
    rw [show putF f v ((k, x) :: r) = (if k = f then (k, v) :: r else (k, x) :: putF f v r) from rfl]
    by_cases hk : k = f
    · rw [if_pos hk, List.length_cons, List.length_cons]; omega
    · rw [if_neg hk, List.length_cons, List.length_cons]; omega

theorem RelO.some_of {v : V} {o : Option Value} (r : RelO (some v) o) : ∃ u, o = some u ∧ RelV v u := by
  cases o with
  | none => exact (show False from r).elim
  | some u => exact ⟨u, rfl, r⟩
theorem RelO.none_of {o : Option Value} (r : RelO none o) : o = none := by
  cases o with
  | none => rfl
  | some u => exact (show False from r).elim
theorem handed_of {v : V} {u : Value} (r : RelV v u) : PySem.W.handedIn u = true := by
  cases v with
  | non => cases (show u = Value.none from r); rfl
  | bl b => cases (show u = Value.bool b from r); rfl
  | int i => obtain ⟨t, e⟩ := (show ∃ t, u = Value.int i t from r); cases e; rfl
  | str x => obtain ⟨t, e⟩ := (show ∃ t, u = Value.str x t from r); cases e; rfl
  | byt b => obtain ⟨t, e⟩ := (show ∃ t, u = Value.bytes b t from r); cases e; rfl
  | flt b => obtain ⟨t, e⟩ := (show ∃ t, u = Value.float b t from r); cases e; rfl
  | ref a => cases (show u = Value.ref a from r); rfl
  | ty n => cases (show u = Value.type n from r); rfl

section
variable {P : Program} {w : World} {H H' : Hp} {h h' : Heap} {a C dx : Addr} {fs fs' : List (Str × V)}
theorem ins_get (hok : HOk P w H h) (e : H a = some (.ins C dx fs)) : ∃ mA, ObjM h a dx C mA ∧ (∀ f, RelO (fs.lookup f) (mA f)) ∧ PySem.Within mA (fs.map (·.1)) ∧ fs.length ≤ 1000 ∧ H dx = some (.own a) := by
  obtain ⟨d, z, ne, ob, mA, n, r, q⟩ := (show ObjOk P w H h a (.ins C dx fs) from hok a _ e)
  exact ⟨mA, ⟨ob, n, ne⟩, r, q, z, d⟩
end

/-! ### what of the text a class must have -/
structure Cls (K : PySem.W.Frag) (C : Addr) : Prop where
  pg : PySem.W.plainGet K C Str.empty = true
  hd : PySem.W.hasDictIn K C = true
  po : PySem.W.plainOver K C = true
  sa : PySem.W.findIn K (.ref C) "__setattr__" = some (some (.builtin "object.__setattr__"))
theorem Cls.get {K : PySem.W.Frag} {C : Addr} (c : Cls K C) (f : Str) : PySem.W.plainGet K C f = true := c.pg
/-- no class of it has the name -/
def NoAttr (K : PySem.W.Frag) (C : Addr) (f : Str) : Prop := PySem.W.findIn K (.ref C) f = some none
theorem NoAttr.taker {K : PySem.W.Frag} {C : Addr} {f : Str} (n : NoAttr K C f) : PySem.W.takerIn K C f = some none := by
  unfold PySem.W.takerIn
  rw [show PySem.W.findIn K (.ref C) f = some none from n]
  rfl
/-- a method: a plain def of the class or of one above it -/
structure Meth (K : PySem.W.Frag) (C : Addr) (m : Str) (f : Addr) : Prop where
  at_ : PySem.W.findIn K (.ref C) m = some (some (.ref f))
  fn : PySem.W.isFn K (.ref f) = true
  kp : PySem.W.keepIn K (.ref f) = true

section
variable {X : Cx} {pins : List (Addr × Obj)} {σ : St} {H : Hp} {s : Shared} {a C dx : Addr} {fs : List (Str × V)} {f : Str} {v : V} {A : Around} {E : Value → Shared → Prop}

theorem getattr_ok {b : Bool} {Q : Value → Shared → Prop} (I : Inv X pins σ H s) (e : H a = some (.ins C dx fs)) (c : Cls X.K C) (n : NoAttr X.K C f) (l : fs.lookup f = some v)
    (h : ∀ u s', Inv X pins σ H s' → RelV v u → Q u s') : wpAny (model X.prog X.w) A (getAttr (.ref a) f b) Q E s := by
  obtain ⟨mA, O, r, _, _, _⟩ := ins_get I.hok e
  obtain ⟨u, hu, ru⟩ := RelO.some_of (v := v) (o := mA f) (by rw [← l]; exact r f)
  exact get_map I.kIn O (c.get f) c.hd n hu (handed_of ru) (h u _ (I.tok _) ru)

theorem getmeth_ok {m : Str} {g : Addr} {pl : Sem Bool} {Q : Value × List Value → Shared → Prop} (I : Inv X pins σ H s) (e : H a = some (.ins C dx fs)) (c : Cls X.K C) (k : Meth X.K C m g) (l : fs.lookup m = none)
    (h : Q (.ref g, [.ref a]) s) : wpAny (model X.prog X.w) A (getMethod (.ref a) m pl) Q E s := by
  obtain ⟨mA, O, r, _, _, _⟩ := ins_get I.hok e
  have hn : mA m = none := RelO.none_of (by rw [← l]; exact r m)
  exact get_meth I.kIn O (c.get m) k.at_ k.fn hn h

theorem setattr_ok {y : V} {u : Value} {Q : Unit → Shared → Prop} (I : Inv X pins σ H s) (e : H a = some (.ins C dx fs)) (c : Cls X.K C) (n : NoAttr X.K C f) (hl : fs.length < 1000) (ry : RelV y u)
    (h : ∀ s', Inv X pins σ (upd H a (.ins C dx (putF f y fs))) s' → Q () s') : wpAny (model X.prog X.w) A (setAttr (.ref a) f u) Q E s := by
  obtain ⟨mA, O, r, wi, _, ho⟩ := ins_get I.hok e
  have hz : (fs.map (·.1)).length ≤ sizeLine := by rw [List.length_map, sizeLine_eq]; omega
  refine set_map I.kIn O c.sa c.po n.taker c.hd wi hz fun h' O' sb => h _ ?_
  have hd : ∃ o, h'.get? dx = some o := let ⟨o, _, _, e', _⟩ := O'.ns; ⟨o, e'⟩
  refine I.write (x := a) (e := dx) (by rw [e]; exact True.intro) (.inr ho) (fun b q hb z => (sb.2 b hb).trans z) hd ?_
  refine ⟨by rw [upd_ne O.ne]; exact ho, ?_, O.ne, O'.obj, _, O'.ns, fun g => ?_, fun g hg => ?_⟩
  · have := length_putF f y fs; omega
  · show RelO ((putF f y fs).lookup g) (if g = f then some u else mA g)
    rw [lookup_putF]
    by_cases q : g = f
    · rw [if_pos q, if_pos q]; exact ry
    · rw [if_neg q, if_neg q]; exact r g
  · by_cases q : g = f
    · rw [q]; exact (keys_putF f y fs).1
    · refine (keys_putF f y fs).2 g (wi g fun z => hg ?_)
      show (if g = f then some u else mA g) = none
      rw [if_neg q]; exact z

/-- a new instance, tracked, without attributes -/
theorem Inv.made (I : Inv X pins σ H s) : Inv X pins σ (upd (upd H s.heap.objs.size (.own (s.heap.objs.size + 1))) (s.heap.objs.size + 1) (.ins C s.heap.objs.size []))
    { s with heap := (s.heap.push PySem.W.emptyDict).push (PySem.W.instObj C s.heap.objs.size) } := by
  have e1 : (s.heap.push PySem.W.emptyDict).get? s.heap.objs.size = some PySem.W.emptyDict := Heap.get?_push_size s.heap rfl
  have e2 : ((s.heap.push PySem.W.emptyDict).push (PySem.W.instObj C s.heap.objs.size)).get? (s.heap.objs.size + 1) = some (PySem.W.instObj C s.heap.objs.size) := by
    have := Heap.get?_push_size (s.heap.push PySem.W.emptyDict) (o := PySem.W.instObj C s.heap.objs.size) rfl
    rwa [Heap.size_push] at this
  have e3 : (s.heap.push PySem.W.emptyDict).Ns s.heap.objs.size (fun _ => none) := ⟨PySem.W.emptyDict, #[], _, e1, rfl, (fun e he => absurd he (by simp)), fun _ => rfl⟩
  have I1 := I.laid (a := s.heap.objs.size) (o := .own (s.heap.objs.size + 1)) (h' := s.heap.push PySem.W.emptyDict) (t' := s.toks) (fun b u q => Heap.get?_push_of_some _ q) (Nat.le_refl _) ⟨_, e1⟩
  refine I1.laid (a := s.heap.objs.size + 1) (o := .ins C s.heap.objs.size []) (t' := s.toks) (fun b u q => Heap.get?_push_of_some _ q) (Nat.le_of_eq (Heap.size_push _ _)) ?_
  have ne : s.heap.objs.size ≠ s.heap.objs.size + 1 := Nat.ne_of_lt (Nat.lt_succ_self _)
  refine ⟨by rw [upd_ne ne, upd_same], Nat.zero_le _, ne, e2, fun _ => none, (Heap.Ns1.of_empty e3).at fun o q => Heap.get?_push_of_some _ q, fun _ => True.intro, fun y hy => absurd rfl hy⟩

/-- e.f where nothing but the object is asked: through attributeBase (super) and the last hold -/
theorem attr_of {prog : Program} {w : World} {env : Env} {e : Expr} {f : Str} {pos : Pos} {s : Shared} {Q : Value → Shared → Prop} (hb : attributeBase e f env (eval e env) = eval e env)
    (h : wpAny (model prog w) A (eval e env) (fun o s₁ => wpAny (model prog w) A (getAttr o f true) Q E s₁) E s) : wpAny (model prog w) A (eval (.Attribute e f pos) env) Q E s :=
  Attribute_any_ h (by rw [arm_eval_Attribute, hb])
end

/-! ### readings and rules -/
/-- e.f, an attribute of the instance -/
def tFld (K : PySem.W.Frag) (ta : TE) (f : Str) : TE := fun σ H Q => ta σ H fun x H1 => ∃ a C dx fs v, x = .ref a ∧ H1 a = some (.ins C dx fs) ∧ Cls K C ∧ NoAttr K C f ∧ fs.lookup f = some v ∧ Q v H1
/-- e.f = value -/
def sFld (K : PySem.W.Frag) (ta tv : TE) (f : Str) : TS := fun D σ H => tv σ H fun y H1 => ta σ H1 fun x H2 => ∃ a C dx fs, x = .ref a ∧ H2 a = some (.ins C dx fs) ∧ Cls K C ∧ NoAttr K C f ∧ fs.length < 1000 ∧
  D.nx σ (upd H2 a (.ins C dx (putF f y fs)))
section
variable {X : Cx} {o e value : Expr} {f : Str} {pos pos' tpos : Pos} {ta tv : TE}
theorem pe_fld (he : PE X e ta) (hb : attributeBase e f X.env (eval e X.env) = eval e X.env) : PE X (.Attribute e f pos) (tFld X.K ta f) := by
  intro pins s σ H Q I h
  refine attr_of hb (thn (he pins s σ H _ I h) fun u s1 ⟨x, H1, I1, rx, a, C, dx, fs, v, ex, ea, c, n, l, q⟩ => ?_)
  subst ex
  obtain rfl : u = Value.ref a := rx
  exact getattr_ok I1 ea c n l fun u' s2 I2 ru => ⟨v, H1, I2, ru, q⟩
theorem ps_fld (ha : PE X o ta) (hv : PE X value tv) (hs : swapsWith value (some (.Attribute o f pos')) pos.line X.env = pure false) : PS X (.Assign [.Attribute o f pos'] value pos) (sFld X.K ta tv f) := by
  intro pins s σ H D I h
  refine plainObj_wpAny_Assign_Attribute (thn (hv pins s σ H _ I h) fun u s1 ⟨y, H1, I1, ry, q⟩ => thn (ha pins s1 σ H1 _ I1 q) fun ov s2 ⟨x, H2, I2, rx, a, C, dx, fs, ex, ea, c, n, l, q2⟩ => ?_) hs
  subst ex
  obtain rfl : ov = Value.ref a := rx
  exact setattr_ok I2 ea c n l ry fun s3 I3 => ⟨σ, _, I3, q2⟩
end

/-! ### isinstance -/
section
variable {X : Cx} {pins : List (Addr × Obj)} {σ : St} {H : Hp} {s : Shared} {A : Around} {E : Value → Shared → Prop} {Q : Value → Shared → Prop} {c : Value} {b : Bool}
/-- the type of a value, as the fragment's deciders take it; for an instance its class -/
inductive TyOf (K : PySem.W.Frag) (H : Hp) : V → Value → Prop where
  | non : TyOf K H .non (.type "NoneType")
  | bl (x : Bool) : TyOf K H (.bl x) (.type "bool")
  | int (i : Int) : TyOf K H (.int i) (.type "int")
  | str (x : Str) : TyOf K H (.str x) (.type "str")
  | flt (x : UInt64) : TyOf K H (.flt x) (.type "float")
  | lst {a : Addr} {xs : List V} (e : H a = some (.lst xs)) : TyOf K H (.ref a) (.type "list")
  | frz {a : Addr} {o : Obj} {xs : List V} (e : H a = some (.frz o (.lst xs))) : TyOf K H (.ref a) (.type "list")
  | tup {a : Addr} {xs : List V} (e : H a = some (.tup xs)) : TyOf K H (.ref a) (.type "tuple")
  | dK {a : Addr} {kvs : List (Key × V)} (e : H a = some (.dK kvs)) : TyOf K H (.ref a) (.type "dict")
  | dT {a : Addr} {kvs : List (List Key × V)} (e : H a = some (.dT kvs)) : TyOf K H (.ref a) (.type "dict")
  | ins {a C dx : Addr} {fs : List (Str × V)} (e : H a = some (.ins C dx fs)) (cl : Cls K C) (ha : PySem.W.findIn K (.ref C) "__class__" = some (some (.builtin "object.__class__")))
      (hn : PySem.W.specialIn K (.builtin "object.__class__") "__get__" = some (some (.builtin "getset_descriptor.__get__"))) (htk : PySem.W.takesIn K (.builtin "object.__class__") = some true)
      (hm : PySem.W.mroIn K C (.type "object") = some true) : TyOf K H (.ref a) (.ref C)
/-- isinstance(x, c) for one class c, a built-in or an own one: kitOne's answer -/
theorem isinst_ok {x : V} {u t : Value} (I : Inv X pins σ H s) (rx : RelV x u) (ty : TyOf X.K H x t) (e : PySem.W.kitOne X.K t c = some b) (h : ∀ tk, Q (.bool b) { s with toks := tk }) :
    wpAny (model X.prog X.w) A (call (.builtin "isinstance") [u, c]) Q E s := by
  cases ty with
  | non => cases (show u = Value.none from rx); exact PySem.W.kia_one PySem.W.kitx_none I.kIn True.intro e (fun z => nomatch z) h
  | bl y => cases (show u = Value.bool y from rx); exact PySem.W.kia_one PySem.W.kitx_bool I.kIn True.intro e (fun z => nomatch z) h
  | int i => obtain ⟨t, q⟩ := (show ∃ t, u = Value.int i t from rx); cases q; exact PySem.W.kia_one PySem.W.kitx_int I.kIn True.intro e (fun z => nomatch z) h
  | str y => obtain ⟨t, q⟩ := (show ∃ t, u = Value.str y t from rx); cases q; exact PySem.W.kia_one PySem.W.kitx_str I.kIn True.intro e (fun z => nomatch z) h
  | flt y => obtain ⟨t, q⟩ := (show ∃ t, u = Value.float y t from rx); cases q; exact PySem.W.kia_one PySem.W.kitx_float I.kIn True.intro e (fun z => nomatch z) h
  | @lst a xs ea =>
    cases (show u = Value.ref a from rx)
    obtain ⟨_, _, n, _, h1⟩ := (show ObjOk X.prog X.w H s.heap a (.lst xs) from I.hok a _ ea)
    exact PySem.W.kia_one PySem.W.kitx_list I.kIn ⟨_, h1, rfl⟩ e (fun z => nomatch z) h
  | @frz a ob xs ea =>
    cases (show u = Value.ref a from rx)
    obtain ⟨_, _, _, n, _, h1⟩ := (show ObjOk X.prog X.w H s.heap a (.frz ob (.lst xs)) from I.hok a _ ea)
    exact PySem.W.kia_one PySem.W.kitx_list I.kIn ⟨_, h1, rfl⟩ e (fun z => nomatch z) h
  | @tup a xs ea =>
    cases (show u = Value.ref a from rx)
    obtain ⟨_, _, _, p⟩ := (show ObjOk X.prog X.w H s.heap a (.tup xs) from I.hok a _ ea)
    obtain ⟨o, h1, h2, _⟩ := p
    exact PySem.W.kia_one PySem.W.kitx_tuple I.kIn ⟨o, h1, h2⟩ e (fun z => nomatch z) h
  | @dK a kvs ea =>
    cases (show u = Value.ref a from rx)
    obtain ⟨_, _, vs, _, p⟩ := (show ObjOk X.prog X.w H s.heap a (.dK kvs) from I.hok a _ ea)
    obtain ⟨o, es, ep, h1, h2, _⟩ := p
    exact PySem.W.kia_one PySem.W.kitx_dict I.kIn ⟨o, h1, h2.1⟩ e (fun z => nomatch z) h
  | @dT a kvs ea =>
    cases (show u = Value.ref a from rx)
    obtain ⟨_, _, xs, _, o, es, ep, h1, h2, _⟩ := (show ObjOk X.prog X.w H s.heap a (.dT kvs) from I.hok a _ ea)
    exact PySem.W.kia_one PySem.W.kitx_dict I.kIn ⟨o, h1, h2.1⟩ e (fun z => nomatch z) h
  | @ins a C dx fs ea cl ha hn htk hm =>
    cases (show u = Value.ref a from rx)
    obtain ⟨mA, O, _⟩ := ins_get I.hok ea
    obtain ⟨od, J, _⟩ := O.look
    exact PySem.W.kia_one (PySem.W.kitx_own (cl.get _) cl.hd ha hn htk hm) I.kIn J e (fun z => nomatch z) h
end
end L2

namespace L2
open PySem PySem.Spec PyProof.Rows

/-! ### room -/
structure Room (k : Nat) (A : Around) : Prop where
  hd : A.handled = none
  dp : A.depth + 3 * k + 5 < recursionLimit
  un : A.units + 16 * k + 200 < cLine
theorem Room.mono {j k : Nat} {A : Around} (r : Room k A) (h : j ≤ k) : Room j A := ⟨r.hd, by have := r.dp; omega, by have := r.un; omega⟩
theorem Room.deeper {k : Nat} {A : Around} (r : Room (k + 1) A) (env : Env) : Room k (A.deeper env) :=
  ⟨r.hd, by have := r.dp; show A.depth + 1 + 3 * k + 5 < _; omega, by have := r.un; show A.units + 3 + 16 * k + 200 < _; omega⟩
theorem Room.in1 {k : Nat} {A : Around} (r : Room (k + 1) A) : Room k A.in1 :=
  ⟨r.hd, by have := r.dp; show A.depth + 3 * k + 5 < _; omega, by have := r.un; show A.units + 1 + 16 * k + 200 < _; omega⟩
theorem make_depth {A : Around} {C : Addr} {us : List Value} {kw : List (Str × Value)} : (A.under (.builtin "type.__call__" ⟨.ref C :: us, kw⟩)).depth = A.depth + 1 := by
  first | rfl | simp [Around.under, Code.weight, Code.isCreation, Code.isGuard, Code.isCaller, Code.frames, Code.isFrame, guardIds]
theorem make_units {A : Around} {C : Addr} {us : List Value} {kw : List (Str × Value)} : (A.under (.builtin "type.__call__" ⟨.ref C :: us, kw⟩)).units = A.units + 1 := by
  first | rfl | simp [Around.under, Code.cUnits, Code.frames, Code.isFrame]
theorem Room.make {k : Nat} {A : Around} (r : Room (k + 1) A) (C : Addr) (us : List Value) (kw : List (Str × Value)) : Room k (A.under (.builtin "type.__call__" ⟨.ref C :: us, kw⟩)) :=
  ⟨r.hd, by have := r.dp; rw [make_depth]; omega, by have := r.un; rw [make_units]; omega⟩
theorem Room.depth {k : Nat} {A : Around} (r : Room k A) : A.depth < recursionLimit := by have := r.dp; omega
theorem Room.units {k : Nat} {A : Around} (r : Room k A) : A.units + 64 < cLine := by have := r.un; omega
/-! ### argument lists and displays -/
def tNil : TA := fun _ H Q => Q [] H
def tCons (ta : TE) (tr : TA) : TA := fun σ H Q => ta σ H fun x H1 => tr σ H1 fun xs H2 => Q (x :: xs) H2
section
variable {X : Cx} {e : Expr} {es : List Expr} {te : TE} {t : TA} {pos : Pos}
theorem pa_nil : PA X [] tNil := fun _ _ _ _ H Q I h => Calls.spliced_nil ⟨[], H, I, .nil, h⟩
theorem pa_cons (ha : PE X e te) (hr : PA X es t) (hs : starEach (e :: es) X.env = (false, eval e X.env) :: starEach es X.env := by rfl) : PA X (e :: es) (tCons te t) := by
  intro pos pins s σ H Q I h
  rw [hs]
  show wpAny _ _ (spliced ((false, eval e X.env) :: backTo pos (starEach es X.env))) _ _ s
  refine Calls.spliced_cons (thn (ha pins s σ H _ I h) fun u s1 ⟨x, H1, I1, r1, q1⟩ => ?_)
  exact thn (hr pos pins s1 σ H1 _ I1 q1) fun us s2 ⟨xs, H2, I2, r2, q2⟩ => ⟨x :: xs, H2, I2, .cons r1 r2, q2⟩

/-- a tuple, a list of written items -/
def tTup (t : TA) : TE := fun σ H Q => t σ H fun xs H1 => xs.length ≤ sizeLine ∧ ∀ p, H1 p = none → Q (.ref p) (upd H1 p (.tup xs))
def tLst (t : TA) : TE := fun σ H Q => t σ H fun xs H1 => xs.length ≤ sizeLine ∧ ∀ p, H1 p = none → Q (.ref p) (upd H1 p (.lst xs))
theorem pe_tup {x1} (h : PA X es t) : PE X (.Tuple es x1 pos) (tTup t) := by
  intro pins s σ H Q I hq
  refine wpAny_Tuple_spliced (thn (h pos pins s σ H _ I hq) fun us s1 ⟨xs, H1, I1, r, z, q⟩ => ⟨by rw [← r.length]; exact z, ?_⟩)
  have hf : H1 s1.heap.objs.size = none := I1.hok.fresh (Nat.le_refl _)
  refine ⟨.ref s1.heap.objs.size, upd H1 s1.heap.objs.size (.tup xs), I1.laid (t' := s1.toks) (fun b u e => Heap.get?_push_of_some _ e) (Nat.le_refl _) ?_, rfl, q _ hf⟩
  exact ⟨z, us, r, ⟨_, Heap.get?_push_size _ rfl, rfl, _, rfl⟩⟩
theorem pe_lst (h : PA X es t) : PE X (.List es pos) (tLst t) := by
  intro pins s σ H Q I hq
  refine wpAny_List_spliced (thn (h pos pins s σ H _ I hq) fun us s1 ⟨xs, H1, I1, r, z, q⟩ => ⟨by rw [← r.length]; exact z, ?_⟩)
  have hf : H1 s1.heap.objs.size = none := I1.hok.fresh (Nat.le_refl _)
  refine ⟨.ref s1.heap.objs.size, upd H1 s1.heap.objs.size (.lst xs), I1.laid (t' := s1.toks) (fun b u e => Heap.get?_push_of_some _ e) (Nat.le_refl _) ?_, rfl, q _ hf⟩
  exact ⟨z, us, 0, r, Heap.get?_push_size _ rfl⟩
end

/-! ### what a def promises -/
/-- a def's promise: the bound arguments in the parameters' order, the heap, the wanted end, the wanted exception -/
abbrev Sp := List V → Hp → VK → XK → Prop
/-- how an exception lies behind a call (file 08 gives it): the callers' frames, abstract heap and state ahead of the call, the wish, the exception, the state -/
abbrev CXT := List Env → Hp → Shared → XK → Value → Shared → Prop

/-- the state at a call -/
structure Env0 (P : Program) (w : World) (K : PySem.W.Frag) (mg : Str → Option Value) (base : Heap) (A : Around) (outer : List Env) (s : Shared) (H : Hp) : Prop where
  frames : A.frames = some outer
  mod : Mod K mg base
  bs : ∀ b o, base.get? b = some o → s.heap.get? b = some o ∧ H b = none
  bsz : base.objs.size ≤ s.heap.objs.size
  funs : s.heap.FunFrames base outer
  frf : ∀ b ∈ frs outer, H b = none
  hok : HOk P w H s.heap
  bare : AllBare s.gens
/-- a call's end -/
def CE (outer : List Env) (P : Program) (w : World) (H : Hp) (s : Shared) (Q : VK) (u : Value) (s' : Shared) : Prop :=
  ∃ v H', s'.os = s.os ∧ AllBare s'.gens ∧ Un (frs outer) [] H H' s.heap s'.heap ∧ HOk P w H' s'.heap ∧ RelV v u ∧ Q v H'
def CR (CX : CXT) (outer : List Env) (P : Program) (w : World) (H : Hp) (s : Shared) (Q : VK) (E : XK) (r : Result) (s' : Shared) : Prop :=
  match r with
  | .ok (.ret u) => CE outer P w H s Q u s'
  | .ok _ => False
  | .error e => CX outer H s E e s'
structure FnOk (P : Program) (w : World) (K : PySem.W.Frag) (mg : Str → Option Value) (base : Heap) (CX : CXT) (k : Nat) (f : Addr) (fd : FuncData) (ps : List Str) (sp : Sp) : Prop where
  len : ∀ vs H Q E, sp vs H Q E → vs.length = ps.length
  run : ∀ (A : Around) (outer : List Env) (s : Shared) (H : Hp) (args : Args) (us : List Value) (vs : List V) (Q : VK) (E : XK), Room k A → Env0 P w K mg base A outer s H → BindsTo s fd args (ps.zip us) → Vals vs us → sp vs H Q E →
    codeAny (model P w) A (.call (.ref f) args) (CR CX outer P w H s Q E) s
theorem FnOk.mono {P : Program} {w : World} {K : PySem.W.Frag} {mg : Str → Option Value} {base : Heap} {CX : CXT} {j k : Nat} {f : Addr} {fd : FuncData} {ps : List Str} {sp : Sp} (F : FnOk P w K mg base CX j f fd ps sp) (h : j ≤ k) :
    FnOk P w K mg base CX k f fd ps sp := ⟨F.len, fun A outer s H args us vs Q E hr => F.run A outer s H args us vs Q E (hr.mono h)⟩
/-- a weaker promise -/
theorem FnOk.imp {P : Program} {w : World} {K : PySem.W.Frag} {mg : Str → Option Value} {base : Heap} {CX : CXT} {k : Nat} {f : Addr} {fd : FuncData} {ps : List Str} {sp sp' : Sp} (F : FnOk P w K mg base CX k f fd ps sp)
    (h : ∀ vs H Q E, sp' vs H Q E → sp vs H Q E) : FnOk P w K mg base CX k f fd ps sp' :=
  ⟨fun vs H Q E q => F.len vs H Q E (h _ _ _ _ q), fun A outer s H args us vs Q E hr he hb hv hs => F.run A outer s H args us vs Q E hr he hb hv (h _ _ _ _ hs)⟩

theorem Env0.make {P : Program} {w : World} {K : PySem.W.Frag} {mg : Str → Option Value} {base : Heap} {A : Around} {outer : List Env} {s : Shared} {H : Hp} (e : Env0 P w K mg base A outer s H) (C : Addr) (us : List Value) (kw : List (Str × Value)) :
    Env0 P w K mg base (A.under (.builtin "type.__call__" ⟨.ref C :: us, kw⟩)) outer s H := ⟨by first | exact e.frames | (simpa [Around.under, Code.envs, Code.isFrame, pushEnvs] using e.frames), e.mod, e.bs, e.bsz, e.funs, e.frf, e.hok, e.bare⟩
theorem Env0.in1 {P : Program} {w : World} {K : PySem.W.Frag} {mg : Str → Option Value} {base : Heap} {A : Around} {outer : List Env} {s : Shared} {H : Hp} (e : Env0 P w K mg base A outer s H) :
    Env0 P w K mg base A.in1 outer s H := ⟨e.frames, e.mod, e.bs, e.bsz, e.funs, e.frf, e.hok, e.bare⟩

section
variable {X : Cx} {pins : List (Addr × Obj)} {σ : St} {H : Hp} {s s' : Shared}
/-- from a body: what a callee wants -/
theorem Inv.env0 (I : Inv X pins σ H s) : Env0 X.prog X.w X.K X.mg X.base X.A X.stack s H :=
  ⟨I.ok.frames, I.ok.mod, I.bs, Nat.le_trans I.ok.bsz I.sz, I.stack, I.stkFree, I.hok, I.bare⟩
/-- behind a call -/
theorem Inv.after {Q : VK} {u : Value} (I : Inv X pins σ H s) (h : CE X.stack X.prog X.w H s Q u s') : EP X pins σ Q u s' := by
  obtain ⟨v, H', os, bare, un, hok, r, q⟩ := h
  obtain ⟨hh, g, d, t, os'⟩ := s'
  obtain rfl : os' = s.os := os
  exact ⟨v, H', I.call (h' := hh) (g' := g) (d' := d) (t' := t) (ch := []) un hok bare (fun b z => absurd z (by simp)), r, q⟩
end

/-! ### calls -/
/-- f(..): the written arguments, then the defaults dvs; E: what is wanted of an exception -/
def tCall (sp : Sp) (dvs : List V) (E : XK) (t : TA) : TE := fun σ H Q => t σ H fun vs H1 => sp (vs ++ dvs) H1 Q E
/-- o.m(..) of an instance of the class at C -/
def tMeth (C : Addr) (m : Str) (sp : Sp) (dvs : List V) (E : XK) (ta : TE) (t : TA) : TE := fun σ H Q => ta σ H fun x H1 => ∃ a dx fs, x = .ref a ∧ H1 a = some (.ins C dx fs) ∧ fs.lookup m = none ∧
  t σ H1 fun vs H2 => sp (x :: (vs ++ dvs)) H2 Q E
/-- C(..): a new instance and its dict, then __init__ -/
def tMake (C : Addr) (sp : Sp) (dvs : List V) (E : XK) (t : TA) : TE := fun σ H Q => t σ H fun vs H1 => ∀ x dx, H1 x = none → H1 dx = none → dx ≠ x →
  sp (.ref x :: (vs ++ dvs)) (upd (upd H1 dx (.own x)) x (.ins C dx [])) (fun v H2 => v = .non ∧ Q (.ref x) H2) E

/-- how the parameters are bound: us the positional arguments, kw the keywords' values by name, ds the defaults that fill up -/
def Binds (K : PySem.W.Frag) (fd : FuncData) (ps : List Str) (ds : List Value) : Prop :=
  ∀ (s : Shared) (us : List Value), K.In s.heap → (us ++ ds).length = ps.length → BindsTo s fd ⟨us, []⟩ (ps.zip (us ++ ds))
/-- every parameter is given -/
theorem Binds.all {K : PySem.W.Frag} {fd : FuncData} {ps : List Str} (h : ∀ us : List Value, us.length = ps.length → bindArgs fd ⟨us, []⟩ = pure (ps.zip us)) : Binds K fd ps [] := fun s us _ hl => by
  rw [List.append_nil] at hl ⊢
  exact .of_eq (h us hl)

/-- an exception of a callee reaches what this body wants of exceptions -/
def Passes (CX : CXT) (X : Cx) (E : XK) : Prop := ∀ (pins : List (Addr × Obj)) (σ : St) (H : Hp) (s : Shared) (e : Value) (s' : Shared), Inv X pins σ H s → CX X.stack H s E e s' → X.xe e s'

section
variable {X : Cx} {CX : CXT} {k : Nat} {f C : Addr} {fd : FuncData} {ps : List Str} {sp : Sp} {dvs : List V} {ds : List Value} {E : XK} {x m : Str} {p pos apos : Pos} {e o : Expr} {es : List Expr} {ta : TE} {t : TA}

/-- the callee runs -/
theorem run_fn {pins : List (Addr × Obj)} {σ : St} {H : Hp} {s : Shared} {Q : VK} {us : List Value} {vs : List V} (F : FnOk X.prog X.w X.K X.mg X.base CX k f fd ps sp) (hr : Room k X.A) (hb : Binds X.K fd ps ds) (hd : Vals dvs ds) (hx : Passes CX X E)
    (I : Inv X pins σ H s) (r : Vals vs us) (h : sp (vs ++ dvs) H Q E) : wpAny (model X.prog X.w) X.A (call (.ref f) us) (EP X pins σ Q) X.xe s := by
  have r2 : Vals (vs ++ dvs) (us ++ ds) := r.append hd
  have hl : (us ++ ds).length = ps.length := by rw [← r2.length]; exact F.len _ _ _ _ h
  refine wpAny_call (codeAny_mono (F.run X.A X.stack s H ⟨us, []⟩ (us ++ ds) (vs ++ dvs) Q E hr I.env0 (hb s us I.kIn hl) r2 h) fun r s' hq => ?_)
  cases r with
  | error e => exact hx pins σ H s e s' I hq
  | ok fl =>
    cases fl with
    | ret u => exact I.after hq
    | next => exact False.elim hq
    | brk => exact False.elim hq
    | cont => exact False.elim hq

theorem pe_call (F : FnOk X.prog X.w X.K X.mg X.base CX k f fd ps sp) (hr : Room k X.A) (hg : Gl X x) (hm : X.mg x = some (.ref f)) (hk : PySem.W.keepIn X.K (.ref f) = true) (hb : Binds X.K fd ps ds) (hd : Vals dvs ds) (hx : Passes CX X E)
    (ha : PA X (e :: es) t) (hdb : (x == ("__debug__" : Str)) = false := by decide) (he : starEach (e :: es) X.env = (false, eval e X.env) :: starEach es X.env := by rfl) (hpl : (backTo pos (starEach es X.env)).any (·.1) = false := by rfl) :
    PE X (.Call (.Name x p) (e :: es) [] pos) (tCall sp dvs E t) := by
  intro pins s σ H Q I h
  refine wpAny_Call_Name_kw (ld_glob I hg hm ?_ hdb)
  refine PySem.W.callWith_K (h₀ := X.base) I.ok.mod.kin hk (thn (ha pos pins s σ H _ I h) fun us s1 ⟨vs, H1, I1, r, q⟩ => ⟨I1.kIn, ?_⟩) he hpl
  exact run_fn F hr hb hd hx I1 r q
/-- o.m(e, ..) -/
theorem pe_meth {pl : Sem Bool} (he : PE X o ta) (c : Cls X.K C) (hm : Meth X.K C m f) (F : FnOk X.prog X.w X.K X.mg X.base CX k f fd ps sp) (hr : Room k X.A) (hb : Binds X.K fd ps ds) (hd : Vals dvs ds) (hx : Passes CX X E) (ha : PA X (e :: es) t)
    (hst : starEach (e :: es) X.env = (false, eval e X.env) :: starEach es X.env := by rfl) (hpl : (backTo pos (starEach es X.env)).any (·.1) = false := by rfl)
    (ht : eval (.Call (.Attribute o m apos) (e :: es) [] pos) X.env = (do
      let ov ← eval o X.env
      standAt apos.atName
      let (f, first) ← holding [ov] (getMethod ov m pl)
      callWith pos f first (backTo pos (starEach (e :: es) X.env)) (backToKw pos (keywordEach [] X.env))) := by rfl) :
    PE X (.Call (.Attribute o m apos) (e :: es) [] pos) (tMeth C m sp dvs E ta t) := by
  intro pins s σ H Q I h
  refine PySem.W.methodCall_KW (pl := pl) (thn (he pins s σ H _ I h) fun u s1 ⟨x, H1, I1, rx, a, dx, fs, ex, ea, l, q⟩ => ?_) ht
  subst ex
  obtain rfl : u = Value.ref a := rx
  refine getmeth_ok I1 ea c hm l ?_
  refine PySem.W.callWith_K (first := [.ref a]) (h₀ := X.base) I.ok.mod.kin hm.kp (thn (ha pos pins s1 σ H1 _ I1 q) fun us s2 ⟨vs, H2, I2, r, q2⟩ => ⟨I2.kIn, ?_⟩) hst hpl
  exact run_fn (us := .ref a :: us) (vs := .ref a :: vs) F hr hb hd hx I2 (.cons rfl r) q2
/-- o.m() -/
theorem pe_meth0 {pl : Sem Bool} (he : PE X o ta) (c : Cls X.K C) (hm : Meth X.K C m f) (F : FnOk X.prog X.w X.K X.mg X.base CX k f fd ps sp) (hr : Room k X.A) (hb : Binds X.K fd ps ds) (hd : Vals dvs ds) (hx : Passes CX X E)
    (ht : eval (.Call (.Attribute o m apos) [] [] pos) X.env = (do
      let ov ← eval o X.env
      standAt apos.atName
      let (f, first) ← holding [ov] (getMethod ov m pl)
      callWith pos f first (backTo pos (starEach [] X.env)) (backToKw pos (keywordEach [] X.env))) := by rfl) :
    PE X (.Call (.Attribute o m apos) [] [] pos) (tMeth C m sp dvs E ta tNil) := by
  intro pins s σ H Q I h
  refine PySem.W.methodCall_KW (pl := pl) (thn (he pins s σ H _ I h) fun u s1 ⟨x, H1, I1, rx, a, dx, fs, ex, ea, l, q⟩ => ?_) ht
  subst ex
  obtain rfl : u = Value.ref a := rx
  refine getmeth_ok I1 ea c hm l ?_
  exact PySem.W.callWith_K0 (first := [.ref a]) I1.kIn hm.kp (run_fn (us := [.ref a]) (vs := [.ref a]) F hr hb hd hx I1 (.cons rfl .nil) q)

/-- what a class must have to be made -/
structure Mk (K : PySem.W.Frag) (C f : Addr) : Prop where
  makes : PySem.W.makesIn K C = true
  init : PySem.W.findIn K (.ref C) "__init__" = some (some (.ref f))
  fn : PySem.W.isFn K (.ref f) = true
  kp : PySem.W.keepIn K (.ref C) = true

theorem run_make {pins : List (Addr × Obj)} {σ : St} {H : Hp} {s : Shared} {Q : VK} {us : List Value} {vs : List V} (M : Mk X.K C f) (F : FnOk X.prog X.w X.K X.mg X.base CX k f fd ps sp) (hr : Room (k + 1) X.A) (hb : Binds X.K fd ps ds) (hd : Vals dvs ds)
    (hx : Passes CX X E) (I : Inv X pins σ H s) (r : Vals vs us)
    (h : ∀ x dx, H x = none → H dx = none → dx ≠ x → sp (.ref x :: (vs ++ dvs)) (upd (upd H dx (.own x)) x (.ins C dx [])) (fun v H2 => v = .non ∧ Q (.ref x) H2) E) :
    wpAny (model X.prog X.w) X.A (call (.ref C) us) (EP X pins σ Q) X.xe s := by
  have hq := h (s.heap.objs.size + 1) s.heap.objs.size (I.hok.fresh (Nat.le_succ _)) (I.hok.fresh (Nat.le_refl _)) (Nat.ne_of_lt (Nat.lt_succ_self _))
  have I2 := Inv.made (C := C) I
  have r2 : Vals (V.ref (s.heap.objs.size + 1) :: (vs ++ dvs)) (Value.ref (s.heap.objs.size + 1) :: (us ++ ds)) := .cons rfl (r.append hd)
  have hl : (Value.ref (s.heap.objs.size + 1) :: us ++ ds).length = ps.length := by
    have e := r2.length
    rw [F.len _ _ _ _ hq] at e
    exact e.symm
  refine wpAny_call (make_map (f := f) I.kIn M.makes M.init (beq_iff_eq.mp M.fn) (codeAny_mono (F.run _ X.stack _ _ ⟨Value.ref (s.heap.objs.size + 1) :: us, []⟩ (Value.ref (s.heap.objs.size + 1) :: (us ++ ds)) _ _ E (hr.make C us [])
    (I2.env0.make C us []) (hb _ (Value.ref (s.heap.objs.size + 1) :: us) I2.kIn hl) r2 hq) fun r s' hq' => ?_))
  cases r with
  | error e => exact hx pins σ _ _ e s' I2 hq'
  | ok fl =>
    cases fl with
    | ret u =>
      obtain ⟨v, H', I3, rv, ev, q3⟩ := I2.after hq'
      subst ev
      exact ⟨rv, ⟨V.ref (s.heap.objs.size + 1), H', I3, rfl, q3⟩⟩
    | next => exact False.elim hq'
    | brk => exact False.elim hq'
    | cont => exact False.elim hq'
theorem pe_make0 (M : Mk X.K C f) (F : FnOk X.prog X.w X.K X.mg X.base CX k f fd ps sp) (hr : Room (k + 1) X.A) (hg : Gl X x) (hm : X.mg x = some (.ref C)) (hb : Binds X.K fd ps ds) (hd : Vals dvs ds) (hx : Passes CX X E)
    (hdb : (x == ("__debug__" : Str)) = false := by decide) : PE X (.Call (.Name x p) [] [] pos) (tMake C sp dvs E tNil) := by
  intro pins s σ H Q I h
  refine wpAny_Call_Name_kw (ld_glob I hg hm ?_ hdb)
  exact PySem.W.callWith_K0 I.kIn M.kp (run_make (us := []) M F hr hb hd hx I .nil h)
end

/-! ### keywords -/
section
variable {X : Cx} {CX : CXT} {k : Nat} {f C : Addr} {fd : FuncData} {ps ks : List Str} {sp : Sp} {E : XK} {x m : Str} {p pos apos kpos : Pos} {e o : Expr} {es : List Expr} {kws : List Keyword} {te ta : TE} {t tk : TA} {nm : Option Str}
variable {g : List Value → List Value → List Value} {gV : List V → List V → List V}
end

/-! ### a def's body keeps its promise -/
/-- names: the parameters first -/
structure FnScope (N P : List Str) (sc : Scope) : Prop where
  kind : sc.kind = .function
  co : sc.isCoroutine = false
  gen : sc.isGenerator = false
  nd : N.Nodup
  pre : N.take P.length = P
  par : ∀ x ∈ P, sc.names.lookup x = some .local ∨ sc.names.lookup x = some .cell
  nofree : ∀ y ∈ sc.names, y.2 ≠ .free

theorem bindL_out {kindOf : Str → Option NameKind} {x : Str} : ∀ {binds : List (Str × Value)} {m : Str → Option Value}, (∀ v, (x, v) ∉ binds) → bindL kindOf binds m x = m x
  | [], _, _ => rfl
  | (n, v) :: r, m, h => by
    unfold bindL
    rw [bindL_out fun w hw => h w (List.mem_cons_of_mem _ hw)]
    split
    · have : x ≠ n := by rintro rfl; exact h v List.mem_cons_self
      simp [this]
    · rfl
theorem bindC_out {kindOf : Str → Option NameKind} {x : Str} : ∀ {binds : List (Str × Value)} {m : Str → Option Value}, (∀ v, (x, v) ∉ binds) → bindC kindOf binds m x = m x
  | [], _, _ => rfl
  | (n, v) :: r, m, h => by
    unfold bindC
    rw [bindC_out fun w hw => h w (List.mem_cons_of_mem _ hw)]
    split
    · rfl
    · have : x ≠ n := by rintro rfl; exact h v List.mem_cons_self
      simp [this]
theorem bindL_get {kindOf : Str → Option NameKind} {x : Str} {v : Value} : ∀ {P : List Str} {vs : List Value} {i : Nat} {m : Str → Option Value}, P.Nodup → P[i]? = some x → vs[i]? = some v → kindOf x = some .local →
    bindL kindOf (P.zip vs) m x = some v
  | [], _, _, _, _, h, _, _ => by simp at h
  | _ :: _, [], _, _, _, _, h, _ => by simp at h
  | p :: P, w :: vs, 0, m, nd, h1, h2, hk => by
    simp at h1 h2; subst h1; subst h2
    show bindL kindOf ((p, w) :: P.zip vs) m p = _
    unfold bindL
    rw [bindL_out fun v hv => (List.nodup_cons.mp nd).1 (List.of_mem_zip hv).1, if_pos hk]
    simp
  | p :: P, w :: vs, i + 1, m, nd, h1, h2, hk => by
    show bindL kindOf ((p, w) :: P.zip vs) m x = _
    unfold bindL
    exact bindL_get (i := i) (List.nodup_cons.mp nd).2 (by simpa using h1) (by simpa using h2) hk
theorem bindC_get {kindOf : Str → Option NameKind} {x : Str} {v : Value} : ∀ {P : List Str} {vs : List Value} {i : Nat} {m : Str → Option Value}, P.Nodup → P[i]? = some x → vs[i]? = some v → kindOf x ≠ some .local →
    bindC kindOf (P.zip vs) m x = some v
  | [], _, _, _, _, h, _, _ => by simp at h
  | _ :: _, [], _, _, _, _, h, _ => by simp at h
  | p :: P, w :: vs, 0, m, nd, h1, h2, hk => by
    simp at h1 h2; subst h1; subst h2
    show bindC kindOf ((p, w) :: P.zip vs) m p = _
    unfold bindC
    rw [bindC_out fun v hv => (List.nodup_cons.mp nd).1 (List.of_mem_zip hv).1, if_neg hk]
    simp
  | p :: P, w :: vs, i + 1, m, nd, h1, h2, hk => by
    show bindC kindOf ((p, w) :: P.zip vs) m x = _
    unfold bindC
    exact bindC_get (i := i) (List.nodup_cons.mp nd).2 (by simpa using h1) (by simpa using h2) hk

/-- the names' values at the entry -/
def start (N : List Str) (vs : List V) : St := vs.map some ++ List.replicate (N.length - vs.length) none

/-- the context of a def's body, at its entry; an exception leaves the frame, then lies as CX says -/
def cxOf (CX : CXT) (P : Program) (w : World) (K : PySem.W.Frag) (mg : Str → Option Value) (base : Heap) (N : List Str) (qual : Str) (scope : Scope) (f : Addr) (cd : Value) (A : Around) (outer : List Env) (s : Shared) (H : Hp) (E : XK) : Cx where
  prog := P
  w := w
  K := K
  mg := mg
  base := base
  A := A.deeper (envOfC qual scope s.heap.objs.size f cd)
  N := N
  s₀ := s
  H₀ := H
  env := envOfC qual scope s.heap.objs.size f cd
  outer := outer
  stack := envOfC qual scope s.heap.objs.size f cd :: outer
  ex := []
  calm := true
  fn := fun _ => true
  pn := []
  xe := fun e s' => wpAny (model P w) (A.deeper (envOfC qual scope s.heap.objs.size f cd)) (leaving (envOfC qual scope s.heap.objs.size f cd) e) (fun _ s'' => CX outer H s E e s'') (fun e' s'' => CX outer H s E e' s'') s'

theorem cell_has {sc : Scope} {n : Nat} {x : Str} (h : sc.names.lookup x = some .cell) : ∃ c, (cellsFrom n sc.names []).lookup x = some c := by
  have q := PySem.W.cellsFrom_some sc.names n [] (.inl h)
  exact Option.isSome_iff_exists.mp q

theorem inv_start {CX : CXT} {P : Program} {w : World} {K : PySem.W.Frag} {mg : Str → Option Value} {base : Heap} {N ps : List Str} {qual : Str} {scope : Scope} {f : Addr} {cd : Value} {A : Around} {outer : List Env} {s s1 : Shared} {H : Hp} {E : XK} {us : List Value} {vs : List V}
    (S : FnScope N ps scope) (hd : A.handled = none) (e0 : Env0 P w K mg base A outer s H) (hl : vs.length = ps.length) (r : Vals vs us)
    (x : InCallC s s.heap.objs.size (bindL (envOfC qual scope s.heap.objs.size f cd).kindOf (ps.zip us) fun _ => none) (cellsFrom (s.heap.objs.size + 1) scope.names []) (bindC (envOfC qual scope s.heap.objs.size f cd).kindOf (ps.zip us) fun _ => none) s1) :
    Inv (cxOf CX P w K mg base N qual scope f cd A outer s H E) [] (start N vs) H s1 := by
  have hpl : ps.length ≤ N.length := by have := congrArg List.length S.pre; rw [List.length_take] at this; omega
  obtain ⟨h1, tk, rfl, hk⟩ := x.done
  have noA : ∀ b : Addr, b ∉ (cxOf CX P w K mg base N qual scope f cd A outer s H E).ex := fun b z => absurd (show b ∈ ([] : List Addr) from z) (by simp)
  refine ⟨⟨e0.mod, S.kind, rfl, rfl, Nat.le_refl _, fun y z c h1 h2 => ?_, fun y hy => ?_, fun y c _ h => ?_, fun _ => hd, Around.frames_deeper e0.frames, .inr ⟨rfl, rfl⟩, fun b z => absurd z (noA b), e0.bs, e0.bsz, fun b _ _ => noA b, fun b z => absurd z (noA b), e0.funs, e0.frf⟩,
    rfl, e0.bare, Un.kept hk, ⟨_, x.toInCall.ns, fun i y v h1 h2 h3 => ?_⟩, fun y c h => ⟨_, x.cell y c h⟩, e0.hok.fresh (Nat.le_refl _), fun y c h => ?_, fun p hp => absurd (show p ∈ ([] : List (Addr × Obj)) from hp) (by simp), e0.hok.kept hk, ?_⟩
  · exact name_of_addr x.apart (PySem.mem_of_lookup h1) (PySem.mem_of_lookup h2)
  · have hy : scope.names.lookup y = some .cell ∨ scope.names.lookup y = some .free := hy
    rcases hy with hy | hy
    · exact cell_has hy
    · exact absurd rfl (S.nofree _ (PySem.mem_of_lookup hy))
  · exact Nat.le_of_lt (x.above y c (PySem.mem_of_lookup h))
  · have hi : i < vs.length := by
      unfold start at h2
      by_cases hi : i < vs.length
      · exact hi
      · rw [List.getElem?_append_right (by simpa using hi)] at h2
        rw [List.getElem?_replicate] at h2
        split at h2 <;> cases h2
    have ha : vs[i]? = some v := by
      unfold start at h2
      rw [List.getElem?_append_left (by simpa using hi), List.getElem?_map] at h2
      cases e : vs[i]? with
      | none => rw [e] at h2; cases h2
      | some a => rw [e] at h2; cases h2; rfl
    obtain ⟨u, hu, rv⟩ := r.get ha
    have hp : ps[i]? = some y := by
      rw [← S.pre, List.getElem?_take_of_lt (by omega)]; exact h1
    have ndP : ps.Nodup := by rw [← S.pre]; exact S.nd.sublist (List.take_sublist _ _)
    refine ⟨u, rv, ?_⟩
    rcases S.par y (List.mem_of_getElem? hp) with k | k
    · exact .inl ⟨k, bindL_get ndP hp hu k⟩
    · obtain ⟨c, e⟩ := cell_has (n := s.heap.objs.size + 1) k
      refine .inr ⟨.inl k, c, e, ?_⟩
      have q := x.cell y c e
      rw [bindC_get ndP hp hu (by show scope.names.lookup y ≠ _; rw [k]; decide)] at q
      exact q
  · exact e0.hok.fresh (Nat.le_of_lt (x.above y c (PySem.mem_of_lookup h)))
  · unfold start
    show _ = N.length
    rw [List.length_append, List.length_map, List.length_replicate]
    omega

/-- THE RULE: a def (or a method) of the text, by its body. The body's reading t is chosen for each entry; it is run at the parameters' values -/
theorem fn_of {CX : CXT} {P : Program} {w : World} {K : PySem.W.Frag} {mg : Str → Option Value} {base : Heap} {k : Nat} {f : Addr} {name qual : Str} {params : Arguments} {body : List Stmt} {scope : Scope} {dV kV doc pm cdv ct oc : Value} {an od : Option Addr}
    {osl : Array (Option Value)} {N ps : List Str} {sp : Sp} (lk : K.lookup f = some ⟨oc, od, .func (PySem.W.fnOf name qual params body scope dV kV doc pm an cdv ct), osl⟩) (hcd : PySem.W.codeIn K cdv qual = true) (S : FnScope N ps scope)
    (len : ∀ vs H Q E, sp vs H Q E → vs.length = ps.length)
    (hbody : ∀ (A : Around) (outer : List Env) (s : Shared) (H : Hp) (vs : List V) (Q : VK) (E : XK), Room k (A.deeper (envOfC qual scope s.heap.objs.size f cdv)) → sp vs H Q E →
      ∃ t, PSs (cxOf CX P w K mg base N qual scope f cdv A outer s H E) body t ∧ t { nx := fun _ H' => Q .non H', rt := Q } (start N vs) H) :
    FnOk P w K mg base CX (k + 1) f (PySem.W.fnOf name qual params body scope dV kV doc pm an cdv ct) ps sp := by
  refine ⟨len, fun A outer s H args us vs Q E hr e0 hb r hsp => ?_⟩
  have hl := len _ _ _ _ hsp
  have KX : K.In s.heap := e0.mod.kin.keeps fun b o e => (e0.bs b o e).1
  have lim : s.heap.NoLimit := e0.mod.nolimit.keeps fun b o e => (e0.bs b o e).1
  have hkind : ∀ y ∈ ps.zip us, scope.names.lookup y.1 = some .local ∨ (scope.names.lookup y.1 = some .cell ∧ ((cellsFrom (s.heap.objs.size + 1) scope.names []).lookup y.1).isSome = true) := fun ⟨n, v⟩ hy => by
    rcases S.par n (List.of_mem_zip hy).1 with q | q
    · exact .inl q
    · exact .inr ⟨q, PySem.W.cellsFrom_some _ _ _ (.inl q)⟩
  refine codeAny_call_function hr.depth (KX _ _ lk) rfl S.co S.gen rfl (PySem.W.codeRec_of KX hcd) (hb _ _ _ _ ?_)
  refine wpAny_newFunctionEnv_cells S.kind hkind fun env he s1 x => ?_
  subst he
  refine ⟨lim.keeps x.toInCall.keep, codeAny_func ?_⟩
  obtain ⟨t, ht, hq⟩ := hbody A outer s H vs Q E (hr.deeper _) hsp
  have I : Inv (cxOf CX P w K mg base N qual scope f cdv A outer s H E) [] (start N vs) H s1 := inv_start S hr.hd e0 hl r x
  refine wpAny_mono (ht [] s1 (start N vs) H _ I hq) (fun fl s' hs => ?_) fun e s' hs => hs
  have fin : ∀ {σ' : St} {H' : Hp} {v : V} {u : Value}, Inv (cxOf CX P w K mg base N qual scope f cdv A outer s H E) [] σ' H' s' → RelV v u → Q v H' → CE outer P w H s Q u s' :=
    fun {σ' H' v u} J rv q => ⟨v, H', J.os, J.bare, J.base, J.hok, rv, q⟩
  cases fl with
  | ret u =>
    obtain ⟨v, σ', H', J, rv, q⟩ := hs
    exact fin J rv q
  | next =>
    obtain ⟨σ', H', J, q⟩ := hs
    exact fin (v := V.non) (u := Value.none) J rfl q
  | brk =>
    obtain ⟨_, _, _, q⟩ := hs
    exact False.elim q
  | cont =>
    obtain ⟨_, _, _, q⟩ := hs
    exact False.elim q
end L2

namespace L2
open PySem PySem.Spec PyProof.Rows
section
variable {X : Cx} {x : Str} {p pos : Pos} {e : Expr} {es : List Expr} {t : TA} {id T : String} {r : List V → Hp → VK → Prop}

def tCB (r : List V → Hp → VK → Prop) (t : TA) : TE := fun σ H Q => t σ H fun vs H1 => r vs H1 Q
/-- f(e, ..), f a built-in function -/
theorem pe_callB (hc : CallR X (.builtin id) r) (hg : Gl X x) (hm : X.mg x = none) (hv : bootBuiltins x = some (.builtin id)) (ha : PA X (e :: es) t) (hn : x ≠ "__name__" := by decide) (hdb : (x == ("__debug__" : Str)) = false := by decide)
    (he : starEach (e :: es) X.env = (false, eval e X.env) :: starEach es X.env := by rfl) (hpl : (backTo pos (starEach es X.env)).any (·.1) = false := by rfl) : PE X (.Call (.Name x p) (e :: es) [] pos) (tCB r t) := by
  intro pins s σ H Q I h
  refine wpAny_Call_Name_kw (ld_blt I hg hm hv ?_ hn hdb)
  exact PyProof.Rows.callWith_builtin1 (thn (ha pos pins s σ H _ I h) fun us s1 ⟨vs, H1, I1, r1, q1⟩ => hc pins s1 σ H1 vs us Q I1 r1 q1) he hpl
/-- T(e, ..), T a built-in type -/
theorem pe_callTy (hc : CallR X (.type T) r) (hg : Gl X x) (hm : X.mg x = none) (hv : bootBuiltins x = some (.type T)) (ha : PA X (e :: es) t) (hn : x ≠ "__name__" := by decide) (hdb : (x == ("__debug__" : Str)) = false := by decide)
    (he : starEach (e :: es) X.env = (false, eval e X.env) :: starEach es X.env := by rfl) (hpl : (backTo pos (starEach es X.env)).any (·.1) = false := by rfl) : PE X (.Call (.Name x p) (e :: es) [] pos) (tCB r t) := by
  intro pins s σ H Q I h
  refine wpAny_Call_Name_kw (ld_blt I hg hm hv ?_ hn hdb)
  exact PyProof.Rows.callWith_type1 (thn (ha pos pins s σ H _ I h) fun us s1 ⟨vs, H1, I1, r1, q1⟩ => hc pins s1 σ H1 vs us Q I1 r1 q1) he hpl
end
end L2

namespace HT
open PySem PyProof.Rows

section
open PySem.SeqAt
open PySem.AutoSeq1 (wpAny_loadPart')
open PySem.MeetsSeq PySem.MeetsSeq2 PySem.MeetsSeq3

end

section
variable {prog : Program} {w : World} {A : Around} {E : Value → Shared → Prop} {s : Shared}

/-! ### t[a:b], not the whole -/
end
end HT

namespace L2
open PySem PySem.Spec PyProof.Rows

/-! ### the parts of a slice -/
abbrev TO := St → Hp → (Option Int → Hp → Prop) → Prop
section
variable {X : Cx} {e : Expr} {te : TE} {lo hi : Option Expr} {tl th : TO} {pos p2 : Pos}

/-- what a slice of a value is, by values: the slice object stands at sl -/
def SlR (X : Cx) (r : V → Option Int → Option Int → Hp → VK → Prop) : Prop :=
  ∀ (pins : List (Addr × Obj)) (s : Shared) (σ : St) (H : Hp) (x : V) (v vl vu : Value) (lo hi : Option Int) (sl : Addr) (Q : VK), Inv X pins σ H s → RelV x v → s.heap.IsSliceOf sl vl vu .none → IsPart vl lo → IsPart vu hi → r x lo hi H Q →
    ∃ T id, typeLookup (.type T) "__getitem__" = pure (some (.builtin id)) ∧ s.TypeIs v T ∧ wpAny (model X.prog X.w) X.A (getItem v (.ref sl)) (EP X pins σ Q) X.xe s
theorem SlR.or {r r' : V → Option Int → Option Int → Hp → VK → Prop} (h : SlR X r) (h' : SlR X r') : SlR X (fun x lo hi H Q => r x lo hi H Q ∨ r' x lo hi H Q) := by
  intro pins s σ H x v vl vu lo hi sl Q I rx hs pl pu q
  rcases q with q | q
  · exact h pins s σ H x v vl vu lo hi sl Q I rx hs pl pu q
  · exact h' pins s σ H x v vl vu lo hi sl Q I rx hs pl pu q
/-! ### t < u, t + u -/
end
end L2

namespace L2
open PySem PySem.Spec PyProof.Rows

/-! ### places -/
/-- the place that an index of any sign means -/
def ixN (n : Nat) (i : Int) : Option Nat := if 0 ≤ i then (if i < n then some i.toNat else none) else if -(n : Int) ≤ i then some (i + n).toNat else none
def atI {α : Type} (xs : List α) (i : Int) : Option α := (ixN xs.length i).bind fun j => xs[j]?
theorem ixN_seq {n : Nat} {i : Int} {j : Nat} (h : ixN n i = some j) : seqIndex? i n = some j ∧ j < n ∧ -(n : Int) ≤ i ∧ i < n := by
  unfold ixN at h
  by_cases h0 : 0 ≤ i
  · rw [if_pos h0] at h
    by_cases h1 : i < n
    · rw [if_pos h1] at h
      have e : i.toNat = j := Option.some.inj h
      exact ⟨by rw [seqIndex_of h0 h1, e], by omega, by omega, h1⟩
    · rw [if_neg h1] at h; cases h
  · rw [if_neg h0] at h
    by_cases h1 : -(n : Int) ≤ i
    · rw [if_pos h1] at h
      have e : (i + n).toNat = j := Option.some.inj h
      exact ⟨by rw [seqIndex_neg (by omega) h1, e], by omega, h1, by omega⟩
    · rw [if_neg h1] at h; cases h
theorem atI_get {α : Type} {xs : List α} {i : Int} {v : α} (h : atI xs i = some v) : ∃ j, seqIndex? i xs.length = some j ∧ xs[j]? = some v ∧ j < xs.length ∧ -(xs.length : Int) ≤ i ∧ i < xs.length := by
  unfold atI at h
  cases e : ixN xs.length i with
  | none => rw [e] at h; cases h
  | some j =>
    rw [e] at h
    obtain ⟨h1, h2, h3, h4⟩ := ixN_seq e
    exact ⟨j, h1, h, h2, h3, h4⟩
theorem atI_nat {α : Type} {xs : List α} {j : Nat} {v : α} (h : xs[j]? = some v) : atI xs (j : Int) = some v := by
  have hj : j < xs.length := (List.getElem?_eq_some_iff.mp h).1
  have e : ixN xs.length (j : Int) = some j := by
    unfold ixN
    rw [if_pos (by omega), if_pos (by omega)]; simp
  unfold atI; rw [e]; exact h
/-! ### what may be subscripted -/
/-- what stands as an index of a plain subscript -/
def PlainIx (b : Expr) : Prop := ∀ o i, subscripted b false o i = operate [o, i] (getItem o i)
/-- a subscript by values -/
def IxR (X : Cx) (r : R2) : Prop :=
  ∀ (value slice : Expr) (pins : List (Addr × Obj)) (s : Shared) (σ : St) (H : Hp) (x y : V) (v u : Value) (Q : VK), Inv X pins σ H s → RelV x v → RelV y u → r x y H Q →
    subscripted slice false v u = operate [v, u] (getItem v u) → wpAny (model X.prog X.w) X.A (subscriptTail value slice v u) (EP X pins σ Q) X.xe s
/-- a call of a builtin's method by values: the receiver, the arguments -/
def MtR (X : Cx) (id : String) (r : V → List V → Hp → VK → Prop) : Prop :=
  ∀ (pins : List (Addr × Obj)) (s : Shared) (σ : St) (H : Hp) (x : V) (xs : List V) (v : Value) (us : List Value) (Q : VK), Inv X pins σ H s → RelV x v → Vals xs us → r x xs H Q →
    wpAny (model X.prog X.w) X.A (call (.builtin id) (v :: us)) (EP X pins σ Q) X.xe s
section
variable {X : Cx} {a b : Expr} {ta tb : TE} {pos : Pos}
theorem IxR.or {r r' : R2} (h : IxR X r) (h' : IxR X r') : IxR X (fun x y H Q => r x y H Q ∨ r' x y H Q) := by
  intro value slice pins s σ H x y v u Q I rx ry q hs
  rcases q with q | q
  · exact h value slice pins s σ H x y v u Q I rx ry q hs
  · exact h' value slice pins s σ H x y v u Q I rx ry q hs
theorem MtR.or {id : String} {r r' : V → List V → Hp → VK → Prop} (h : MtR X id r) (h' : MtR X id r') : MtR X id (fun x xs H Q => r x xs H Q ∨ r' x xs H Q) := by
  intro pins s σ H x xs v us Q I rx rs q
  rcases q with q | q
  · exact h pins s σ H x xs v us Q I rx rs q
  · exact h' pins s σ H x xs v us Q I rx rs q
/-- a[b] -/
theorem pe_ix {r : R2} (hr : IxR X r) (ha : PE X a ta) (hb : PE X b tb) (hs : PlainIx b) : PE X (.Subscript a b pos) (tOp r ta tb) := by
  intro pins s σ H Q I h
  exact Subscript_ (binT ha hb I h fun v u s2 x y H2 I2 rx ry q => hr a b pins s2 σ H2 x y v u Q I2 rx ry q (hs _ _))

def rIxL (K : PySem.W.Frag) : R2 := fun x y H Q => ∃ p xs i v, x = .ref p ∧ y = .int i ∧ SqL K H p xs ∧ atI xs i = some v ∧ Q v H
def rIxT (K : PySem.W.Frag) : R2 := fun x y H Q => ∃ p xs i v, x = .ref p ∧ y = .int i ∧ SqT K H p xs ∧ atI xs i = some v ∧ Q v H
theorem ix_list : IxR X (rIxL X.K) := by
  intro value slice pins s σ H x y v u Q I rx ry h hs
  obtain ⟨p, xs, i, z, rfl, rfl, hq, he, q⟩ := h
  cases rx
  obtain ⟨t, rfl⟩ := ry
  obtain ⟨its, r, pl, hz⟩ := I.list hq
  obtain ⟨j, h1, h2, h3, h4, h5⟩ := atI_get he
  obtain ⟨w, ew, rw'⟩ := r.get h2
  have hl := r.length
  have hn := line63
  have fin : EP X pins σ Q w s := ⟨z, H, I, rw', q⟩
  by_cases h0 : 0 ≤ i
  · have hj : i.toNat = j := by
      rw [seqIndex_of h0 h5] at h1
      exact Option.some.inj h1
    exact item_listR pl.isList h0 (by omega) (by rw [hj]; simpa using ew) fin hs
  · have hj : (i + (its.toArray.size : Int)).toNat = j := by
      rw [seqIndex_neg (by omega) h4] at h1
      rw [List.size_toArray, ← hl]
      exact Option.some.inj h1
    exact subscriptTail_builtinR (x := w) pl.isList.typeIs slot_list_getitem.lookup
      (wpAny_getItem_list_neg (Q := fun r s' => r = w ∧ EP X pins σ Q r s') pl.isList (by omega) (by rw [List.size_toArray] <;> omega) (by omega) (by rw [hj]; simpa using ew) ⟨rfl, fin⟩) hs
theorem ix_tup : IxR X (rIxT X.K) := by
  intro value slice pins s σ H x y v u Q I rx ry h hs
  obtain ⟨p, xs, i, z, rfl, rfl, hq, he, q⟩ := h
  cases rx
  obtain ⟨t, rfl⟩ := ry
  obtain ⟨its, r, pl, hz⟩ := I.tuple hq
  obtain ⟨j, h1, h2, h3, h4, h5⟩ := atI_get he
  obtain ⟨w, ew, rw'⟩ := r.get h2
  have hl := r.length
  have hn := line63
  have fin : EP X pins σ Q w s := ⟨z, H, I, rw', q⟩
  exact subscriptTail_builtinR (x := w) pl.typeIs slot_tuple_getitem.lookup
    (getItem_tuple (j := j) (Q := fun r s' => r = w ∧ EP X pins σ Q r s') pl (by omega) (by omega) (by rw [List.size_toArray, ← hl]; exact h1) (by simpa using ew) ⟨rfl, fin⟩) hs
/-! ### xs[i] = v, any sign -/
theorem Inv.lst {pins : List (Addr × Obj)} {σ : St} {H : Hp} {s : Shared} {p : Addr} {xs : List V} (I : Inv X pins σ H s) (h : H p = some (.lst xs)) :
    ∃ (its : List Value) (n : Nat), Vals xs its ∧ s.heap.get? p = some { cls := .type "list", data := .seq its.toArray n } ∧ xs.length ≤ sizeLine := by
  obtain ⟨z, its, n, r, e⟩ := I.hok p _ h
  exact ⟨its, n, r, e, z⟩
/-! ### slices -/
/-! ### in, not in: flat items -/
def flatV : V → Bool
  | .non => true
  | .bl _ => true
  | .int _ => true
  | .str _ => true
  | _ => false
/-- == of flat values -/
def eqV : V → V → Bool
  | .non, .non => true
  | .bl a, .bl b => a == b
  | .bl a, .int b => (if a then 1 else 0) == b
  | .int a, .bl b => a == (if b then 1 else 0)
  | .int a, .int b => a == b
  | .str a, .str b => a == b
  | _, _ => false
theorem eqAt_V {A : Around} {s : Shared} {y x : V} {u v : Value} (ry : RelV y u) (rx : RelV x v) (fy : flatV y = true) (fx : flatV x = true) : SeqAt.EqAt A s u v (eqV y x) := by
  cases y with
  | non =>
    cases ry
    cases x with
    | non => cases rx; exact SeqAt.EqAt.same _
    | bl b => cases rx; exact SeqAt.EqAt.none_bool b
    | int b => obtain ⟨t, rfl⟩ := rx; exact SeqAt.EqAt.none_int b t
    | str b => obtain ⟨t, rfl⟩ := rx; exact SeqAt.EqAt.none_str b t
    | _ => exact absurd (show false = true from fx) Bool.false_ne_true
  | bl a =>
    cases ry
    cases x with
    | non => cases rx; exact SeqAt.EqAt.bool_none a
    | bl b => cases rx; exact SeqAt.EqAt.bool_bool a b
    | int b => obtain ⟨t, rfl⟩ := rx; exact SeqAt.EqAt.bool_int a b t
    | str b => obtain ⟨t, rfl⟩ := rx; exact SeqAt.EqAt.bool_str a b t
    | _ => exact absurd (show false = true from fx) Bool.false_ne_true
  | int a =>
    obtain ⟨t', rfl⟩ := ry
    cases x with
    | non => cases rx; exact SeqAt.EqAt.int_none a t'
    | bl b => cases rx; exact SeqAt.EqAt.int_bool a t' b
    | int b => obtain ⟨t, rfl⟩ := rx; exact SeqAt.EqAt.int_int a t' b t
    | str b => obtain ⟨t, rfl⟩ := rx; exact SeqAt.EqAt.int_str a t' b t
    | _ => exact absurd (show false = true from fx) Bool.false_ne_true
  | str a =>
    obtain ⟨t', rfl⟩ := ry
    cases x with
    | non => cases rx; exact SeqAt.EqAt.str_none a t'
    | bl b => cases rx; exact SeqAt.EqAt.str_bool a t' b
    | int b => obtain ⟨t, rfl⟩ := rx; exact SeqAt.EqAt.str_int a t' b t
    | str b => obtain ⟨t, rfl⟩ := rx; exact SeqAt.EqAt.str_str a t' b t
    | _ => exact absurd (show false = true from fx) Bool.false_ne_true
  | _ => exact absurd (show false = true from fy) Bool.false_ne_true
/-- the items' answers, read off the values (a value's own answer does not lean on its token) -/
def eqU (x : V) (u : Value) : Bool := match u with
  | .none => eqV .non x
  | .bool b => eqV (.bl b) x
  | .int i _ => eqV (.int i) x
  | .str z _ => eqV (.str z) x
  | _ => false
theorem eqU_of {x y : V} {u : Value} (r : RelV y u) (f : flatV y = true) : eqU x u = eqV y x := by
  cases y with
  | non => cases r; rfl
  | bl b => cases r; rfl
  | int i => obtain ⟨t, rfl⟩ := r; rfl
  | str z => obtain ⟨t, rfl⟩ := r; rfl
  | _ => exact absurd (show false = true from f) Bool.false_ne_true
theorem any_eqU {x : V} : ∀ {xs : List V} {us : List Value}, Vals xs us → xs.all flatV = true → us.any (eqU x) = xs.any fun y => eqV y x
  | _, _, .nil, _ => rfl
  | y :: xs, u :: us, .cons r t, f => by
    rw [List.all_cons, Bool.and_eq_true] at f
    rw [List.any_cons, List.any_cons, eqU_of r f.1, any_eqU t f.2]
theorem mem_eqAt {A : Around} {s : Shared} {x : V} {v : Value} (rx : RelV x v) (fx : flatV x = true) : ∀ {xs : List V} {us : List Value}, Vals xs us → xs.all flatV = true → ∀ u ∈ us, SeqAt.EqAt A s u v (eqU x u)
  | _, _, .nil, _ => fun u hu => by cases hu
  | y :: xs, u :: us, .cons r t, f => fun u' hu => by
    rw [List.all_cons, Bool.and_eq_true] at f
    rcases List.mem_cons.mp hu with rfl | hu
    · rw [eqU_of r f.1]; exact eqAt_V r rx f.1 fx
    · exact mem_eqAt rx fx t f.2 u' hu
def inV (x : V) (xs : List V) : Bool := xs.any fun y => eqV y x
/-- x in a list or tuple of flat items -/
def rIn (K : PySem.W.Frag) (neg : Bool) : R2 := fun x y H Q => ∃ p xs, y = .ref p ∧ (SqL K H p xs ∨ SqT K H p xs) ∧ flatV x = true ∧ xs.all flatV = true ∧ Q (.bl (if neg then !inV x xs else inV x xs)) H
theorem op_in_seq : OpR X (compareOp .In) (rIn X.K false) := by
  intro pins s σ H x y v u Q I rx ry h
  obtain ⟨p, xs, rfl, hq, fx, fs, q⟩ := h
  cases ry
  rcases hq with hq | hq
  · obtain ⟨its, r, pl, hz⟩ := I.list hq
    refine SeqAt.in_listAt (eqU x) pl.isList (fun w hw => mem_eqAt rx fx r fs w (by simpa using hw)) ⟨.bl _, H, I, rfl, ?_⟩
    rw [show its.toArray.any (eqU x) = its.any (eqU x) by simp, any_eqU r fs]
    exact q
  · obtain ⟨its, r, pl, hz⟩ := I.tuple hq
    refine SeqAt.in_tupleAt (eqU x) pl (fun w hw => mem_eqAt rx fx r fs w (by simpa using hw)) ⟨.bl _, H, I, rfl, ?_⟩
    rw [show its.toArray.any (eqU x) = its.any (eqU x) by simp, any_eqU r fs]
    exact q
theorem op_notIn_seq : OpR X (compareOp .NotIn) (rIn X.K true) := by
  intro pins s σ H x y v u Q I rx ry h
  obtain ⟨p, xs, rfl, hq, fx, fs, q⟩ := h
  cases ry
  rcases hq with hq | hq
  · obtain ⟨its, r, pl, hz⟩ := I.list hq
    refine SeqAt.notIn_listAt (eqU x) pl.isList (fun w hw => mem_eqAt rx fx r fs w (by simpa using hw)) ⟨.bl _, H, I, rfl, ?_⟩
    rw [show its.toArray.any (eqU x) = its.any (eqU x) by simp, any_eqU r fs]
    exact q
  · obtain ⟨its, r, pl, hz⟩ := I.tuple hq
    refine SeqAt.notIn_tupleAt (eqU x) pl (fun w hw => mem_eqAt rx fx r fs w (by simpa using hw)) ⟨.bl _, H, I, rfl, ?_⟩
    rw [show its.toArray.any (eqU x) = its.any (eqU x) by simp, any_eqU r fs]
    exact q
/-! ### len, list(x), tuple(x) of any list or tuple that is read -/
theorem call_len_seq : CallR X (.builtin "len") (fun xs H Q => ∃ p ys, xs = [.ref p] ∧ (SqL X.K H p ys ∨ SqT X.K H p ys) ∧ Q (.int ys.length) H) := by
  intro pins s σ H xs us Q I r h
  obtain ⟨p, ys, rfl, hq, q⟩ := h
  obtain ⟨u, rfl, rx⟩ := vals1 r
  cases rx
  have hn := line63
  rcases hq with hq | hq
  · obtain ⟨its, r', pl, hz⟩ := I.list hq
    have hlen := r'.length
    exact Calls.call_len_list pl.isList (by simp only [List.size_toArray] <;> omega) ⟨.int ys.length, H, I.tok _, ⟨s.toks + 1, by rw [List.size_toArray, hlen]⟩, q⟩
  · obtain ⟨its, r', pl, hz⟩ := I.tuple hq
    have hlen := r'.length
    exact len_tuple pl (by simp only [List.size_toArray] <;> omega) ⟨.int ys.length, H, I.tok _, ⟨s.toks + 1, by rw [List.size_toArray, hlen]⟩, q⟩
theorem call_len_str : CallR X (.builtin "len") (fun xs H Q => ∃ z, xs = [.str z] ∧ z.length ≤ sizeLine ∧ Q (.int z.length) H) := by
  intro pins s σ H xs us Q I r h
  obtain ⟨z, rfl, hz, q⟩ := h
  obtain ⟨u, rfl, t, rfl⟩ := vals1 r
  have hn := line63
  exact len_str (by omega) ⟨.int z.length, H, I.tok _, ⟨_, rfl⟩, q⟩
theorem CallR.or {f : Value} {r r' : List V → Hp → VK → Prop} (h : CallR X f r) (h' : CallR X f r') : CallR X f (fun xs H Q => r xs H Q ∨ r' xs H Q) := by
  intro pins s σ H xs us Q I rs q
  rcases q with q | q
  · exact h pins s σ H xs us Q I rs q
  · exact h' pins s σ H xs us Q I rs q
theorem call_list_of : CallR X (.type "list") (fun xs H Q => ∃ p ys, xs = [.ref p] ∧ (SqL X.K H p ys ∨ SqT X.K H p ys) ∧ ∀ l, H l = none → Q (.ref l) (upd H l (.lst ys))) := by
  intro pins s σ H xs us Q I r h
  obtain ⟨p, ys, rfl, hq, q⟩ := h
  obtain ⟨u, rfl, rx⟩ := vals1 r
  cases rx
  have fin : ∀ (its : List Value), Vals ys its → ys.length ≤ sizeLine → ∀ (h' : Heap) (c' : Nat), (∀ b o', s.heap.get? b = some o' → h'.get? b = some o') →
      h'.get? s.heap.objs.size = some { cls := .type "list", dict := none, data := .seq its.toArray c', slots := #[] } → EP X pins σ Q (.ref s.heap.objs.size) { s with heap := h' } := fun its r' hz h' c' kp e =>
    ⟨.ref s.heap.objs.size, _, I.laid (t' := s.toks) kp (Nat.le_refl _) (show ObjOk X.prog X.w _ h' _ (.lst ys) from ⟨hz, its, c', r', e⟩), rfl, q _ (I.hok.fresh (Nat.le_refl _))⟩
  rcases hq with hq | hq
  · obtain ⟨its, r', pl, hz⟩ := I.list hq
    have hlen := r'.length
    obtain ⟨o, ho, hc, n, hd⟩ := pl.isList
    exact call_list_seq p (.inl rfl) ho hc hd (fun h' c' kp e => fin its r' hz h' c' kp e) (by simp only [List.size_toArray] <;> omega)
  · obtain ⟨its, r', pl, hz⟩ := I.tuple hq
    have hlen := r'.length
    obtain ⟨o, ho, hc, n, hd⟩ := pl
    exact call_list_seq p (.inr rfl) ho hc hd (fun h' c' kp e => fin its r' hz h' c' kp e) (by simp only [List.size_toArray] <;> omega)
/-! ### the call of a builtin's method: o.m(..) -/
/-- the value is of that builtin type -/
def tyV (K : PySem.W.Frag) (T : String) (x : V) (H : Hp) : Prop := match x with
  | .str _ => T = "str"
  | .int _ => T = "int"
  | .ref p => (T = "list" ∧ ∃ xs, SqL K H p xs) ∨ (T = "tuple" ∧ ∃ o, K.lookup p = some o ∧ o.cls = .type "tuple" ∧ o.dict = none) ∨
      (T = "dict" ∧ ((∃ kvs, H p = some (.dK kvs)) ∨ ∃ kvs, H p = some (.dT kvs))) ∨ (T = "set" ∧ ∃ S n, H p = some (.set S n))
  | _ => False
theorem tyV_is {pins : List (Addr × Obj)} {σ : St} {H : Hp} {s : Shared} {T : String} {x : V} {v : Value} (I : Inv X pins σ H s) (r : RelV x v) (ty : tyV X.K T x H) :
    s.TypeIs v T ∧ ∀ a, v = .ref a → ∃ ob, s.heap.get? a = some ob ∧ ob.dict = none := by
  cases x with
  | str z =>
    obtain ⟨t, rfl⟩ := r
    cases (show T = "str" from ty)
    exact ⟨typeIs_str s z t, fun _ e => nomatch e⟩
  | int i =>
    obtain ⟨t, rfl⟩ := r
    cases (show T = "int" from ty)
    exact ⟨typeIs_int s i t, fun _ e => nomatch e⟩
  | ref p =>
    cases r
    rcases ty with ⟨rfl, xs, hq⟩ | ⟨rfl, o, hk, hc, hd⟩ | ⟨rfl, hk⟩ | ⟨rfl, S, n, hk⟩
    · obtain ⟨its, _, pl, _⟩ := I.list hq
      refine ⟨pl.isList.typeIs, fun a e => ?_⟩
      cases e
      obtain ⟨o, n, e, c, hd, _⟩ := pl
      exact ⟨o, e, hd⟩
    · refine ⟨⟨o, I.kIn p o hk, hc⟩, fun a e => ?_⟩
      cases e
      exact ⟨o, I.kIn _ o hk, hd⟩
    · have z : ∃ o, s.heap.get? p = some o ∧ o.ExactDict := by
        rcases hk with ⟨kvs, hk⟩ | ⟨kvs, hk⟩
        · obtain ⟨_, _, _, _, o, _, _, e, ex, _⟩ := I.hok p _ hk
          exact ⟨o, e, ex⟩
        · obtain ⟨_, _, _, _, o, _, _, e, ex, _⟩ := I.hok p _ hk
          exact ⟨o, e, ex⟩
      obtain ⟨o, e, ex⟩ := z
      refine ⟨⟨o, e, ex.1⟩, fun a e2 => ?_⟩
      cases e2
      exact ⟨o, e, ex.2.1⟩
    · obtain ⟨o, _, _, _, e, ex, _⟩ := I.hok p _ hk
      refine ⟨⟨o, e, ex.1⟩, fun a e2 => ?_⟩
      cases e2
      exact ⟨o, e, ex.2.1⟩
  | _ => exact False.elim ty
def tBM0 (K : PySem.W.Frag) (T : String) (r : V → List V → Hp → VK → Prop) (to : TE) : TE := fun σ H Q => to σ H fun x H1 => tyV K T x H1 ∧ r x [] H1 Q
def tBM (K : PySem.W.Frag) (T : String) (r : V → List V → Hp → VK → Prop) (to : TE) (t : TA) : TE := fun σ H Q => to σ H fun x H1 => tyV K T x H1 ∧ t σ H1 fun xs H2 => r x xs H2 Q
variable {o e : Expr} {es : List Expr} {to : TE} {t : TA} {name : Str} {apos cpos : Pos} {T id : String} {r : V → List V → Hp → VK → Prop}
theorem pe_bm0 (pa : PlainAttrs T) (slot : Slot T name id) (hty : typeOf (.builtin id) = pure (.type "method_descriptor")) (hm : MtR X id r) (ho : PE X o to)
    (hbase : attributeBase o name X.env (eval o X.env) = eval o X.env := by rfl) (hline : (apos.endLine == cpos.line) = true := by rfl) : PE X (.Call (.Attribute o name apos) [] [] cpos) (tBM0 X.K T r to) := by
  intro pins s σ H Q I h
  refine wpAny_Call_method0_late hbase hline (thn (ho pins s σ H _ I h) fun v s1 ⟨x, H1, I1, r1, ty, q1⟩ => ?_)
  obtain ⟨h1, h2⟩ := tyV_is I1 r1 ty
  exact ⟨T, id, pa, slot, hty, h1, h2, Calls.callWith_builtin rfl (PySem.evalArgs_none (hm pins s1 σ H1 x [] v [] Q I1 r1 .nil q1))⟩
theorem pe_bm (pa : PlainAttrs T) (slot : Slot T name id) (hty : typeOf (.builtin id) = pure (.type "method_descriptor")) (hm : MtR X id r) (ho : PE X o to) (ha : PA X (e :: es) t)
    (hbase : attributeBase o name X.env (eval o X.env) = eval o X.env := by rfl)
    (hfew : ((backTo cpos (starEach (e :: es) X.env)).all (fun x => !x.1) && (backToKw cpos (keywordEach [] X.env)).all (fun x => x.1.isSome)
      && decide ((e :: es).length + ([] : List Keyword).length + (if ([] : List Keyword).isEmpty then 0 else 1) < 30)) = true := by rfl)
    (hline : (apos.endLine == cpos.line) = true := by rfl) (hs : starEach (e :: es) X.env = (false, eval e X.env) :: starEach es X.env := by rfl) (hplain : (backTo cpos (starEach es X.env)).any (·.1) = false := by rfl) :
    PE X (.Call (.Attribute o name apos) (e :: es) [] cpos) (tBM X.K T r to t) := by
  intro pins s σ H Q I h
  refine wpAny_Call_method_late hbase hfew hline rfl (thn (ho pins s σ H _ I h) fun v s1 ⟨x, H1, I1, r1, ty, q1⟩ => ?_)
  obtain ⟨h1, h2⟩ := tyV_is I1 r1 ty
  refine ⟨T, id, pa, slot, hty, h1, h2, ?_⟩
  have hA := ha cpos pins s1 σ H1 _ I1 q1
  rw [hs] at hA ⊢
  refine Calls.callWith_builtin (by show (false || (backTo cpos (starEach es X.env)).any (·.1)) = false; rw [hplain] <;> rfl) (Calls.evalArgs_plain ?_)
  exact thn hA fun us s2 ⟨vs, H2, I2, r2, q2⟩ => hm pins s2 σ H2 x vs v us Q I2 r1 r2 q2
/- xs.append(e), list.index on a module's tuple .. are MtR facts of 06m -/
end
end L2

namespace L2
open PySem PySem.Spec PyProof.Rows

def MtM (X : Cx) (id : String) (r : V → List V → Hp → VK → Prop) : Prop :=
  ∀ (pins : List (Addr × Obj)) (s : Shared) (σ : St) (H : Hp) (x : V) (xs : List V) (v : Value) (us : List Value) (Q : VK), Inv X pins σ H s → RelV x v → Vals xs us → r x xs H Q →
    wpAny (model X.prog X.w) X.A (call (.builtin id) (v :: us)) (EP X pins σ Q) X.xe s

/-! ### lists of values -/
theorem Vals.one : ∀ {x : V} {us : List Value}, Vals [x] us → ∃ u, us = [u] ∧ RelV x u
  | _, _, .cons r .nil => ⟨_, rfl, r⟩
theorem Vals.two : ∀ {x y : V} {us : List Value}, Vals [x, y] us → ∃ u v, us = [u, v] ∧ RelV x u ∧ RelV y v
  | _, _, _, .cons r (.cons q .nil) => ⟨_, _, rfl, r, q⟩
theorem Vals.zero : ∀ {us : List Value}, Vals [] us → us = []
  | _, .nil => rfl
theorem Vals.dropLast {xs : List V} {us : List Value} (h : Vals xs us) : Vals xs.dropLast us.dropLast := by
  induction h with
  | nil => exact .nil
  | cons r t ih =>
    cases t with
    | nil => exact .nil
    | cons q t' => exact .cons r ih
theorem Vals.eraseIdx : ∀ {xs : List V} {us : List Value} (i : Nat), Vals xs us → Vals (xs.eraseIdx i) (us.eraseIdx i)
  | _, _, _, .nil => .nil
  | _, _, 0, .cons _ t => t
  | _, _, i + 1, .cons r t => .cons r (Vals.eraseIdx i t)
theorem erase_last {α : Type} (l : List α) : l.eraseIdx (l.length - 1) = l.dropLast := by
  induction l with
  | nil => rfl
  | cons a r ih =>
    cases r with
    | nil => rfl
    | cons b r =>
      have e : (a :: b :: r).length - 1 = ((b :: r).length - 1) + 1 := by
        have h1 : (a :: b :: r).length = r.length + 2 := rfl
        have h2 : (b :: r).length = r.length + 1 := rfl
        omega
      rw [e, List.eraseIdx_cons_succ, ih]
      all_goals rfl
section
variable {X : Cx} {pins : List (Addr × Obj)} {σ : St} {H : Hp} {s : Shared} {l b : Addr} {xs ys zs : List V}

/-! ### the two steps: a tracked list is rewritten, a new list is laid -/
theorem Inv.lset {its its' : List Value} {n : Nat} {f : Array Value → Array Value} {t' : Nat} (I : Inv X pins σ H s) (hH : H l = some (.lst xs))
    (e : s.heap.get? l = some { cls := .type "list", data := .seq its.toArray n }) (hf : f its.toArray = its'.toArray) (hv : Vals ys its') (hz : ys.length ≤ sizeLine) :
    Inv X pins σ (upd H l (.lst ys)) { s with heap := s.heap.update l (Obj.mapSeq f), toks := t' } := by
  have q := PySem.IsL.update e f
  rw [hf] at q
  refine I.write (x := l) (e := l) (by rw [hH]; exact trivial) (.inl rfl) (fun b' u hb hu => (Heap.get?_update_other s.heap (Obj.mapSeq f) (Ne.symm hb)).trans hu) ⟨_, q⟩ ?_
  exact ⟨hz, its', _, hv, q⟩
theorem Inv.lnew {its : List Value} {t' : Nat} (I : Inv X pins σ H s) (hv : Vals ys its) (hz : ys.length ≤ sizeLine) :
    Inv X pins σ (upd H s.heap.objs.size (.lst ys)) { s with heap := s.heap.push { cls := .type "list", data := .seq its.toArray }, toks := t' } :=
  I.laid (fun _ _ q => Heap.get?_push_of_some _ q) (Nat.le_refl _) ⟨hz, its, 0, hv, Heap.get?_push_size _ rfl⟩
theorem Inv.fresh (I : Inv X pins σ H s) : H s.heap.objs.size = none := I.hok.fresh (Nat.le_refl _)
theorem Inv.lstM (I : Inv X pins σ H s) (hH : H l = some (.lst xs)) : xs.length ≤ sizeLine ∧ ∃ (its : List Value) (n : Nat), Vals xs its ∧ xs.length = its.length ∧ s.heap.get? l = some { cls := .type "list", data := .seq its.toArray n } := by
  obtain ⟨z, its, n, r, e⟩ := I.hok l _ hH
  exact ⟨z, its, n, r, r.length, e⟩

end

section
variable {X : Cx}

/-! ### methods -/
def rAppend : V → List V → Hp → VK → Prop := fun x vs H Q => ∃ l xs y, x = .ref l ∧ vs = [y] ∧ H l = some (.lst xs) ∧ xs.length < sizeLine ∧ Q .non (upd H l (.lst (xs ++ [y])))
theorem mt_append : MtM X "list.append" rAppend := by
  intro pins s σ H x vs v us Q I rx rv h
  obtain ⟨l, xs, y, rfl, rfl, hH, hz, q⟩ := h
  cases rx
  obtain ⟨u, rfl, ru⟩ := rv.one
  obtain ⟨z, its, n, r, hl, e⟩ := I.lstM hH
  refine call_meets F.slot_list_append ⟨_, e, rfl⟩ F.entry_list_append (F.args_list_append_2 _ _) (PySem.list_append l its.toArray n u (by rw [List.size_toArray]; omega)) ⟨e, ?_⟩
  refine ⟨.non, _, I.lset (its' := its ++ [u]) hH e (by simp) (r.append (.cons ru .nil)) ?_, rfl, q⟩
  rw [List.length_append, List.length_singleton]
  omega

def rPop : V → List V → Hp → VK → Prop := fun x vs H Q => ∃ l xs y, x = .ref l ∧ vs = [] ∧ H l = some (.lst xs) ∧ xs[xs.length - 1]? = some y ∧ Q y (upd H l (.lst xs.dropLast))
theorem mt_pop : MtM X "list.pop" rPop := by
  intro pins s σ H x vs v us Q I rx rv h
  obtain ⟨l, xs, y, rfl, rfl, hH, hy, q⟩ := h
  cases rx
  have hus := rv.zero
  subst hus
  obtain ⟨z, its, n, r, hl, e⟩ := I.lstM hH
  obtain ⟨u, hu, ru⟩ := r.get hy
  have hy' : its.toArray[its.toArray.size - 1]? = some u := by
    show its.toArray[its.length - 1]? = some u
    rw [← Array.getElem?_toList, ← hl]
    exact hu
  refine call_meets F.slot_list_pop ⟨_, e, rfl⟩ F.entry_list_pop (F.args_list_pop_1 _) (MeetsSeq.list_pop_last l its.toArray n u hy' (by rw [List.size_toArray]; omega)) ⟨e, ?_⟩
  refine ⟨y, _, I.lset (its' := its.dropLast) hH e ?_ r.dropLast ?_, ru, q⟩
  · show its.toArray.eraseIdxIfInBounds (its.toArray.size - 1) = its.dropLast.toArray
    rw [List.size_toArray, List.eraseIdxIfInBounds_toArray, erase_last]
  · rw [List.length_dropLast]
    omega

/-! ### list + list, list += list, list * int -/
def rCat : R2 := fun x y H Q => ∃ l b xs zs, x = .ref l ∧ y = .ref b ∧ H l = some (.lst xs) ∧ H b = some (.lst zs) ∧ xs.length + zs.length ≤ sizeLine ∧ ∀ p, H p = none → Q (.ref p) (upd H p (.lst (xs ++ zs)))
theorem op_cat : OpR X (binaryOp .Add) rCat := by
  intro pins s σ H x y v u Q I rx ry h
  obtain ⟨l, b, xs, zs, rfl, rfl, hH, hB, hz, q⟩ := h
  cases rx
  cases ry
  obtain ⟨z, its, n, r, hl, e⟩ := I.lstM hH
  obtain ⟨z2, its2, n2, r2, hl2, e2⟩ := I.lstM hB
  refine PySem.P.add_list e e2 ?_ (by rw [List.size_toArray, List.size_toArray]; omega)
  have ea : its.toArray ++ its2.toArray = (its ++ its2).toArray := by simp
  rw [ea]
  exact ⟨.ref _, _, I.lnew (t' := s.toks) (r.append r2) (by rw [List.length_append]; omega), rfl, q _ I.fresh⟩
/-! ### del xs[i] -/
end

/-! ### xs[a:b] = ys -/
section
variable {prog : Program} {w : World} {A : Around} {E : Value → Shared → Prop} {s : Shared}
end

section
variable {X : Cx}
end
end L2

namespace L2
open PySem PySem.Spec PyProof.Rows

/-! ### lists of pairs as tables -/
section
variable {κ : Type} [DecidableEq κ]
def valV (kvs : List (κ × V)) (k : κ) : Option V := (kvs.find? fun kv => decide (kv.1 = k)).map (·.2)
/-- in its place, or at the end -/
def putK (kvs : List (κ × V)) (k : κ) (v : V) : List (κ × V) :=
  if (kvs.any fun kv => decide (kv.1 = k)) = true then kvs.map (fun kv => if kv.1 = k then (kv.1, v) else kv) else kvs ++ [(k, v)]
def dropK (kvs : List (κ × V)) (k : κ) : List (κ × V) := kvs.filter fun kv => decide (kv.1 ≠ k)

theorem valV_pos {p : κ × V} {r : List (κ × V)} {k : κ} (e : p.1 = k) : valV (p :: r) k = some p.2 := by simp [valV, List.find?_cons, e]
theorem valV_neg {p : κ × V} {r : List (κ × V)} {k : κ} (e : ¬ p.1 = k) : valV (p :: r) k = valV r k := by simp [valV, List.find?_cons, e]
theorem valV_any (k : κ) : ∀ kvs : List (κ × V), (kvs.any fun kv => decide (kv.1 = k)) = (valV kvs k).isSome
  | [] => rfl
  | p :: r => by
    rw [List.any_cons]
    by_cases e : p.1 = k
    · simp only [valV_pos e, decide_eq_true e, Bool.true_or, Option.isSome_some]
    · rw [valV_neg e, decide_eq_false e, Bool.false_or]; exact valV_any k r
theorem length_putK (kvs : List (κ × V)) (k : κ) (v : V) : (putK kvs k v).length ≤ kvs.length + 1 := by
  unfold putK
  split
  · rw [List.length_map]; omega
  · rw [List.length_append, List.length_cons, List.length_nil]; omega
theorem RelO.isSome_eq {o : Option V} {u : Option Value} (r : RelO o u) : o.isSome = u.isSome := by
  cases o with
  | none => cases u with
    | none => rfl
    | some _ => exact (show False from r).elim
  | some _ => cases u with
    | none => exact (show False from r).elim
    | some _ => rfl
theorem RelO.getD {o : Option V} {u : Option Value} {d : V} {d' : Value} (r : RelO o u) (rd : RelV d d') : RelV (o.getD d) (u.getD d') := by
  cases o with
  | none => cases u with
    | none => exact rd
    | some _ => exact (show False from r).elim
  | some _ => cases u with
    | none => exact (show False from r).elim
    | some _ => exact r

/-- raw tables of the same keys -/
theorem KV.val {kvs : List (κ × V)} {vs : List (κ × Value)} (r : KV kvs vs) (k : κ) : RelO (valV kvs k) (valueAt vs k) := by
  unfold KV at r
  induction r with
  | nil => exact True.intro
  | @cons p q ps qs h t ih =>
    obtain ⟨h1, h2⟩ := h
    by_cases e : p.1 = k
    · have e' : q.1 = k := h1.symm.trans e
      have b : valueAt (q :: qs) k = some q.2 := by simp [valueAt, List.find?_cons, e']
      rw [valV_pos e, b]; exact h2
    · have e' : ¬ q.1 = k := fun z => e (h1.trans z)
      have b : valueAt (q :: qs) k = valueAt qs k := by simp [valueAt, List.find?_cons, e']
      rw [valV_neg e, b]; exact ih
theorem KV.any {kvs : List (κ × V)} {vs : List (κ × Value)} (r : KV kvs vs) (k : κ) : (kvs.any fun kv => decide (kv.1 = k)) = vs.any fun kv => decide (kv.1 = k) := by
  unfold KV at r
  induction r with
  | nil => rfl
  | cons h t ih => rw [List.any_cons, List.any_cons, ih, h.1]
theorem KV.repl {kvs : List (κ × V)} {vs : List (κ × Value)} (r : KV kvs vs) (k : κ) {y : V} {u : Value} (ry : RelV y u) :
    KV (kvs.map fun kv => if kv.1 = k then (kv.1, y) else kv) (vs.map fun kv => if kv.1 = k then (kv.1, u) else kv) := by
  unfold KV at r ⊢
  induction r with
  | nil => exact .nil
  | @cons p q ps qs h t ih =>
    rw [List.map_cons, List.map_cons]
    refine .cons ?_ ih
    obtain ⟨h1, h2⟩ := h
    by_cases e : p.1 = k
    · rw [if_pos e, if_pos (h1.symm.trans e)]; exact ⟨h1, ry⟩
    · rw [if_neg e, if_neg (fun z => e (h1.trans z))]; exact ⟨h1, h2⟩
theorem KV.put {kvs : List (κ × V)} {vs : List (κ × Value)} (r : KV kvs vs) (k : κ) {y : V} {u : Value} (ry : RelV y u) : KV (putK kvs k y) (stored vs k u) := by
  unfold putK stored
  rw [r.any k]
  by_cases e : (vs.any fun kv => decide (kv.1 = k)) = true
  · rw [if_pos e, if_pos e]; exact r.repl k ry
  · rw [if_neg e, if_neg e]; exact Paired.snoc r ⟨rfl, ry⟩
theorem KV.drop {kvs : List (κ × V)} {vs : List (κ × Value)} (r : KV kvs vs) (k : κ) : KV (dropK kvs k) (without vs k) := by
  unfold KV at r ⊢
  unfold dropK without
  induction r with
  | nil => exact .nil
  | @cons p q ps qs h t ih =>
    obtain ⟨h1, h2⟩ := h
    rw [List.filter_cons, List.filter_cons]
    by_cases e : p.1 = k
    · have a : ¬ decide (p.1 ≠ k) = true := by simp [e]
      have b : ¬ decide (q.1 ≠ k) = true := by simp [h1.symm.trans e]
      rw [if_neg a, if_neg b]; exact ih
    · have e' : ¬ q.1 = k := fun z => e (h1.trans z)
      have a : decide (p.1 ≠ k) = true := by simp [e]
      have b : decide (q.1 ≠ k) = true := by simp [e']
      rw [if_pos a, if_pos b]; exact .cons ⟨h1, h2⟩ ih
theorem KV.keys {kvs : List (κ × V)} {vs : List (κ × Value)} (r : KV kvs vs) : kvs.map (·.1) = vs.map (·.1) := by
  unfold KV at r
  induction r with
  | nil => rfl
  | cons h t ih => rw [List.map_cons, List.map_cons, ih, h.1]
theorem KV.length {kvs : List (κ × V)} {vs : List (κ × Value)} (r : KV kvs vs) : kvs.length = vs.length := Paired.length r
theorem dropK_le (kvs : List (κ × V)) (k : κ) : (dropK kvs k).length ≤ kvs.length := List.length_filter_le _ _
end


/-! ### a tracked dict, its keys ints and texts or tuples of these -/
theorem kV_is {P : Program} {w : World} {k : Key} {u : Value} (r : RelV (kV k) u) : (mixKind P w).is k u = true := by
  cases k with
  | inl i => obtain ⟨t, e⟩ := (show ∃ t, u = Value.int i t from r); subst e; exact mixKind_int P w i t
  | inr x => obtain ⟨t, e⟩ := (show ∃ t, u = Value.str x t from r); subst e; exact mixKind_str P w x t
theorem items_are {P : Program} {w : World} : ∀ {ks : List Key} {us : List Value}, Vals (ks.map kV) us → ItemsAre (mixKind P w) ks us
  | [], _, r => by rw [List.map_nil] at r; cases r; exact .nil
  | k :: ks, _, r => by
    rw [List.map_cons] at r
    cases r with
    | cons h t => exact .cons (kV_is h) (items_are t)

/-- raw entries of a dict with tuple keys -/
abbrev KT (H : Hp) : List (List Key × V) → List (List Key × Addr × Value) → Prop := Paired fun p q => p.1 = q.1 ∧ H q.2.1 = some (.tup (p.1.map kV)) ∧ RelV p.2 q.2.2
theorem KT.val {H : Hp} {kvs : List (List Key × V)} {xs : List (List Key × Addr × Value)} (r : KT H kvs xs) (k : List Key) : RelO (valV kvs k) ((atKey xs k).map (·.2)) := by
  induction r with
  | nil => exact True.intro
  | @cons p q ps qs h t ih =>
    obtain ⟨h1, _, h2⟩ := h
    by_cases e : p.1 = k
    · have e' : q.1 = k := h1.symm.trans e
      have b : atKey (q :: qs) k = some q.2 := by simp [atKey, List.find?_cons, e']
      rw [valV_pos e, b]; exact h2
    · have e' : ¬ q.1 = k := fun z => e (h1.trans z)
      have b : atKey (q :: qs) k = atKey qs k := by simp [atKey, List.find?_cons, e']
      rw [valV_neg e, b]; exact ih
theorem KT.repl {H : Hp} {kvs : List (List Key × V)} {xs : List (List Key × Addr × Value)} (r : KT H kvs xs) (k : List Key) {y : V} {u : Value} (ry : RelV y u) :
    KT H (kvs.map fun kv => if kv.1 = k then (kv.1, y) else kv) (xs.map (putAt k u)) := by
  induction r with
  | nil => exact .nil
  | @cons p q ps qs h t ih =>
    rw [List.map_cons, List.map_cons]
    refine .cons ?_ ih
    obtain ⟨h1, h2, h3⟩ := h
    unfold putAt
    by_cases e : p.1 = k
    · rw [if_pos e, if_pos (h1.symm.trans e)]; exact ⟨h1, h2, ry⟩
    · rw [if_neg e, if_neg (fun z => e (h1.trans z))]; exact ⟨h1, h2, h3⟩
theorem KT.put {H : Hp} {kvs : List (List Key × V)} {xs : List (List Key × Addr × Value)} (r : KT H kvs xs) (k : List Key) {b : Addr} {y : V} {u : Value} (hb : H b = some (.tup (k.map kV))) (ry : RelV y u) :
    KT H (putK kvs k y) (storedH xs k b u) := by
  have e : (kvs.any fun kv => decide (kv.1 = k)) = (atKey xs k).isSome := by
    rw [valV_any, (r.val k).isSome_eq, Option.isSome_map]
  unfold putK storedH
  rw [e]
  by_cases q : (atKey xs k).isSome = true
  · rw [if_pos q, if_pos q]; exact r.repl k ry
  · rw [if_neg q, if_neg q]; exact Paired.snoc r ⟨rfl, hb, ry⟩
theorem KT.keeps {H H' : Hp} {kvs : List (List Key × V)} {xs : List (List Key × Addr × Value)} (r : KT H kvs xs) (ht : ∀ b ys, H b = some (.tup ys) → H' b = some (.tup ys)) : KT H' kvs xs :=
  Paired.mapP r fun _ _ z => ⟨z.1, ht _ _ z.2.1, z.2.2⟩

section
variable {P : Program} {w : World} {H : Hp} {h : Heap} {a : Addr}
theorem rd_of {u : HO} (ok : HOk P w H h) (e : Rd H a u) : ObjOk P w H h a u := e.ok ok
theorem dk_rd {kvs : List (Key × V)} (ok : HOk P w H h) (e : Rd H a (.dK kvs)) : kvs.length ≤ sizeLine ∧ (a == sysModules) = false ∧ ∃ vs, KV kvs vs ∧ h.DictOf (mixKind P w) a vs :=
  show ObjOk P w H h a (.dK kvs) from rd_of ok e
theorem dk_of {kvs : List (Key × V)} (ok : HOk P w H h) (e : H a = some (.dK kvs)) : kvs.length ≤ sizeLine ∧ (a == sysModules) = false ∧ ∃ vs, KV kvs vs ∧ h.DictOf (mixKind P w) a vs := dk_rd ok (.inl e)
/-- a tracked tuple of ints and texts is a key -/
theorem key_of {ks : List Key} (ok : HOk P w H h) (e : H a = some (.tup (ks.map kV))) : (tupleKind (mixKind P w)).is h ks a := by
  obtain ⟨_, its, r, o, h1, h2, n, h3⟩ := (show ObjOk P w H h a (.tup (ks.map kV)) from ok a _ e)
  exact ⟨o, its.toArray, n, h1, h2, h3, by simpa using items_are r⟩
theorem dt_rd {kvs : List (List Key × V)} (ok : HOk P w H h) (e : Rd H a (.dT kvs)) : kvs.length ≤ sizeLine ∧ (a == sysModules) = false ∧
    ∃ xs, KT H kvs xs ∧ h.DictOfH (tupleKind (mixKind P w)) a xs := by
  obtain ⟨z, y, xs, r, o, es, ep, h1, h2, h3, h4, h5⟩ := (show ObjOk P w H h a (.dT kvs) from rd_of ok e)
  refine ⟨z, y, xs, r, o, es, ep, h1, h2, h3, h4, fun x hx => ?_, h5⟩
  have all : ∀ {l : List (List Key × V)} {m : List (List Key × Addr × Value)}, KT H l m → ∀ x ∈ m, (tupleKind (mixKind P w)).is h x.1 x.2.1 := by
    intro l m q
    induction q with
    | nil => intro x hx; exact nomatch hx
    | @cons p q ps qs hq t ih =>
      intro x hx
      rcases List.mem_cons.mp hx with e | hx
      · subst e
        exact key_of ok (by rw [← hq.1]; exact hq.2.1)
      · exact ih x hx
  exact all r x hx
theorem dt_of {kvs : List (List Key × V)} (ok : HOk P w H h) (e : H a = some (.dT kvs)) : kvs.length ≤ sizeLine ∧ (a == sysModules) = false ∧
    ∃ xs, KT H kvs xs ∧ h.DictOfH (tupleKind (mixKind P w)) a xs := dt_rd ok (.inl e)
end

/-- what the dict at a holds at the key y -/
def DGet (H : Hp) (a : Addr) (y : V) (r : Option V) : Prop :=
  (∃ kvs k, Rd H a (.dK kvs) ∧ y = kV k ∧ r = valV kvs k) ∨ ∃ kvs k b, Rd H a (.dT kvs) ∧ y = .ref b ∧ H b = some (.tup (k.map kV)) ∧ r = valV kvs k
/-- the heap behind a[y] = v -/
def DPut (H : Hp) (a : Addr) (y v : V) (H' : Hp) : Prop :=
  (∃ kvs k, H a = some (.dK kvs) ∧ y = kV k ∧ kvs.length < sizeLine ∧ H' = upd H a (.dK (putK kvs k v))) ∨
  ∃ kvs k b, H a = some (.dT kvs) ∧ y = .ref b ∧ H b = some (.tup (k.map kV)) ∧ kvs.length < sizeLine ∧ H' = upd H a (.dT (putK kvs k v))
theorem DGet.k {H : Hp} {a : Addr} {kvs : List (Key × V)} {k : Key} (e : H a = some (.dK kvs)) : DGet H a (kV k) (valV kvs k) := .inl ⟨kvs, k, .inl e, rfl, rfl⟩
theorem DGet.t {H : Hp} {a b : Addr} {kvs : List (List Key × V)} {k : List Key} (e : H a = some (.dT kvs)) (eb : H b = some (.tup (k.map kV))) : DGet H a (.ref b) (valV kvs k) := .inr ⟨kvs, k, b, .inl e, rfl, eb, rfl⟩
theorem DPut.k {H : Hp} {a : Addr} {kvs : List (Key × V)} {k : Key} {v : V} (e : H a = some (.dK kvs)) (hl : kvs.length < sizeLine) : DPut H a (kV k) v (upd H a (.dK (putK kvs k v))) := .inl ⟨kvs, k, e, rfl, hl, rfl⟩
theorem DPut.t {H : Hp} {a b : Addr} {kvs : List (List Key × V)} {k : List Key} {v : V} (e : H a = some (.dT kvs)) (eb : H b = some (.tup (k.map kV))) (hl : kvs.length < sizeLine) :
    DPut H a (.ref b) v (upd H a (.dT (putK kvs k v))) := .inr ⟨kvs, k, b, e, rfl, eb, hl, rfl⟩


section
variable {X : Cx} {pins : List (Addr × Obj)} {σ : St} {H : Hp} {s : Shared} {a : Addr} {y v : V} {u r : Value} {o : Option V} {A : Around} {E : Value → Shared → Prop}

theorem Inv.big (I : Inv X pins σ H s) : sysModules < s.heap.objs.size := by
  have h : mainGlobals < s.heap.objs.size := (I.mod.glob.keeps I.bk).lt
  exact Nat.lt_trans (by decide) h

/-- d[y], there -/
theorem d_getItem {Q : Value → Shared → Prop} (hu : A.units + 1 < cLine) (I : Inv X pins σ H s) (g : DGet H a y (some v)) (ry : RelV y u) (h : ∀ w' s', Inv X pins σ H s' → RelV v w' → Q w' s') :
    wpAny (model X.prog X.w) A (getItem (.ref a) u) Q E s := by
  rcases g with ⟨kvs, k, e, ey, l⟩ | ⟨kvs, k, b, e, ey, eb, l⟩
  · subst ey
    obtain ⟨z, hd, vs, rel, dd⟩ := dk_rd I.hok e
    obtain ⟨w', hw, rw'⟩ := RelO.some_of (v := v) (o := valueAt vs k) (by rw [l]; exact rel.val k)
    exact wpAny_getItem_of (kV_is ry) dd.mapOf hw (h w' _ (I.tok _) rw')
  · subst ey
    cases (show u = Value.ref b from ry)
    obtain ⟨z, hd, xs, rel, dd⟩ := dt_rd I.hok e
    obtain ⟨w', hw, rw'⟩ := RelO.some_of (v := v) (o := (atKey xs k).map (·.2)) (by rw [l]; exact rel.val k)
    obtain ⟨p, hp, hp2⟩ := Option.map_eq_some_iff.mp hw
    refine wpAny_getItem_heap (tupleKind_room_in1 hu) (key_of I.hok eb) dd hp ?_
    rw [hp2]
    exact h w' _ (I.tok _) rw'
/-- y in d -/
theorem d_in {Q : Value → Shared → Prop} (hu : A.units + 1 < cLine) (I : Inv X pins σ H s) (g : DGet H a y o) (ry : RelV y u) (h : ∀ s', Inv X pins σ H s' → Q (.bool o.isSome) s') :
    wpAny (model X.prog X.w) A (compareOp .In u (.ref a)) Q E s := by
  rcases g with ⟨kvs, k, e, ey, l⟩ | ⟨kvs, k, b, e, ey, eb, l⟩
  · subst ey
    obtain ⟨z, hd, vs, rel, dd⟩ := dk_rd I.hok e
    refine wpAny_in_of (kV_is ry) hd dd.mapOf ?_
    rw [← (rel.val k).isSome_eq, ← l]
    exact h _ (I.tok _)
  · subst ey
    cases (show u = Value.ref b from ry)
    obtain ⟨z, hd, xs, rel, dd⟩ := dt_rd I.hok e
    refine wpAny_in_heap (tupleKind_room_in1 hu) (key_of I.hok eb) hd dd ?_
    have q := (rel.val k).isSome_eq
    rw [Option.isSome_map] at q
    rw [← q, ← l]
    exact h _ (I.tok _)
theorem d_notIn {Q : Value → Shared → Prop} (hu : A.units + 1 < cLine) (I : Inv X pins σ H s) (g : DGet H a y o) (ry : RelV y u) (h : ∀ s', Inv X pins σ H s' → Q (.bool (!o.isSome)) s') :
    wpAny (model X.prog X.w) A (compareOp .NotIn u (.ref a)) Q E s := by
  rcases g with ⟨kvs, k, e, ey, l⟩ | ⟨kvs, k, b, e, ey, eb, l⟩
  · subst ey
    obtain ⟨z, hd, vs, rel, dd⟩ := dk_rd I.hok e
    refine wpAny_notIn_of (kV_is ry) hd dd.mapOf ?_
    rw [← (rel.val k).isSome_eq, ← l]
    exact h _ (I.tok _)
  · subst ey
    cases (show u = Value.ref b from ry)
    obtain ⟨z, hd, xs, rel, dd⟩ := dt_rd I.hok e
    refine wpAny_notIn_heap (tupleKind_room_in1 hu) (key_of I.hok eb) hd dd ?_
    have q := (rel.val k).isSome_eq
    rw [Option.isSome_map] at q
    rw [← q, ← l]
    exact h _ (I.tok _)
/-- a dict's object is replaced -/
theorem d_write {h' : Heap} {t' : Nat} {ob : HO} (I : Inv X pins σ H s) (mu : Mut (H a)) (hs : Heap.SameBut a s.heap h') (he : ∃ q, h'.get? a = some q) (new : ObjOk X.prog X.w (upd H a ob) h' a ob) :
    Inv X pins σ (upd H a ob) { s with heap := h', toks := t' } :=
  I.write (x := a) (e := a) mu (.inl rfl) (fun b q hb z => (hs.2 b hb).trans z) he new
theorem dk_new {P : Program} {w : World} {H' : Hp} {h' : Heap} {kvs : List (Key × V)} {vs : List (Key × Value)} (z : kvs.length ≤ sizeLine) (hd : (a == sysModules) = false) (rel : KV kvs vs) (dd : h'.DictOf (mixKind P w) a vs) :
    ObjOk P w H' h' a (.dK kvs) := ⟨z, hd, vs, rel, dd⟩
/-- d[y] = v -/
theorem d_setItem {H' : Hp} {Q : Unit → Shared → Prop} (hu : A.units + 1 < cLine) (I : Inv X pins σ H s) (g : DPut H a y v H') (ry : RelV y u) (rv : RelV v r) (h : ∀ s', Inv X pins σ H' s' → Q () s') :
    wpAny (model X.prog X.w) A (setItem (.ref a) u r) Q E s := by
  rcases g with ⟨kvs, k, e, ey, l, eH⟩ | ⟨kvs, k, b, e, ey, eb, l, eH⟩
  · subst ey eH
    obtain ⟨z, hd, vs, rel, dd⟩ := dk_of I.hok e
    have hz : vs.length ≤ sizeLine := by rw [← rel.length]; exact z
    have hl : (putK kvs k v).length ≤ sizeLine := by have := length_putK kvs k v; omega
    refine wpAny_setItem_pairs (hsz := hz) (kV_is ry) dd fun h' dd' hs => h _ ?_
    have he : ∃ q, h'.get? a = some q := let ⟨q, _, _, hq, _⟩ := dd'; ⟨q, hq⟩
    exact d_write I (by rw [e]; exact True.intro) hs he (dk_new hl hd (rel.put k rv) dd')
  · subst ey eH
    cases (show u = Value.ref b from ry)
    obtain ⟨z, hd, xs, rel, dd⟩ := dt_of I.hok e
    have hz : xs.length ≤ sizeLine := by rw [← Paired.length rel]; exact z
    have hl : (putK kvs k v).length ≤ sizeLine := by have := length_putK kvs k v; omega
    refine wpAny_setItem_heap (hsz := hz) (tupleKind_room_in1 hu) (key_of I.hok eb) dd fun h' dd' hs => h _ ?_
    obtain ⟨q, es, ep, hq, h2, h3, h4, _, h5⟩ := dd'
    refine d_write I (by rw [e]; exact True.intro) hs ⟨q, hq⟩ ⟨hl, hd, _, (rel.put k eb rv).keeps fun c ys ec => ?_, q, es, ep, hq, h2, h3, h4, h5⟩
    rw [upd_ne (ne_of ec e (fun z => nomatch z))]
    exact ec
end

section
variable {X : Cx} {pins : List (Addr × Obj)} {σ : St} {H : Hp} {s : Shared} {a : Addr} {kvs : List (Key × V)} {k : Key} {u : Value} {A : Around} {E : Value → Shared → Prop}
/-- d.pop(k[, x]), there -/
theorem d_pop {v : V} {more : List Value} {Q : Value → Shared → Prop} (I : Inv X pins σ H s) (e : H a = some (.dK kvs)) (ry : RelV (kV k) u) (l : valV kvs k = some v) (hm : more = [] ∨ ∃ x, more = [x])
    (h : ∀ w' s', Inv X pins σ (upd H a (.dK (dropK kvs k))) s' → RelV v w' → Q w' s') : wpAny (model X.prog X.w) A (call (.builtin "dict.pop") (.ref a :: u :: more)) Q E s := by
  obtain ⟨z, hd, vs, rel, dd⟩ := dk_of I.hok e
  obtain ⟨w', hw, rw'⟩ := RelO.some_of (v := v) (o := valueAt vs k) (by rw [← l]; exact rel.val k)
  have hp : (keyPart u).isSome = true := by
    cases k with
    | inl i => obtain ⟨t, q⟩ := (show ∃ t, u = Value.int i t from ry); subst q; rfl
    | inr x => obtain ⟨t, q⟩ := (show ∃ t, u = Value.str x t from ry); subst q; rfl
  have ha : argsOk "dict.pop" ⟨.ref a :: u :: more, []⟩ := by
    rcases hm with q | ⟨x, q⟩
    · subst q; exact PySem.F.args_dict_pop_2 _ _
    · subst q; exact PySem.F.args_dict_pop_3 _ _ _
  refine call_meetsIn PySem.F.slot_dict_pop dd.typeIs PySem.F.entry_dict_pop ha (meets_dict_pop_there (mixKind X.prog X.w) a (kV_is ry) more hm hp)
    ⟨vs, w', dd, by rw [← rel.length]; exact z, hw, fun h' dd' hs => h w' _ ?_ rw'⟩
  have he : ∃ q, h'.get? a = some q := let ⟨q, _, _, hq, _⟩ := dd'; ⟨q, hq⟩
  exact d_write I (by rw [e]; exact True.intro) hs he (dk_new (Nat.le_trans (dropK_le kvs k) z) hd (rel.drop k) dd')
/-- len(d) -/
theorem d_len {Q : Value → Shared → Prop} (I : Inv X pins σ H s) (e : Rd H a (.dK kvs)) (h : ∀ t s', Inv X pins σ H s' → Q (.int kvs.length t) s') : wpAny (model X.prog X.w) A (call (.builtin "len") [.ref a]) Q E s := by
  obtain ⟨z, hd, vs, rel, dd⟩ := dk_rd I.hok e
  refine call_len_dict hd dd (by rw [← rel.length]; rw [sizeLine_eq] at z; omega) ?_
  rw [← rel.length]
  exact h _ _ (I.tok _)
end


/-! ### readings and rules -/
/-- the element of a subscription, not a slice -/
def NoSl (i : Expr) : Prop := ∀ ov iv, subscripted i false ov iv = operate [ov, iv] (getItem ov iv)
theorem subD_of {prog : Program} {w : World} {A : Around} {E : Value → Shared → Prop} {s : Shared} {env : Env} {value slice : Expr} {pos : Pos} {T id : String} {Q : Value → Shared → Prop}
    (hl : typeLookup (.type T) "__getitem__" = pure (some (.builtin id))) (hs : NoSl slice)
    (h : wpAny (model prog w) A (eval value env) (fun o s₁ => wpAny (model prog w) A (eval slice env) (fun i s₂ => s₂.TypeIs o T ∧ wpAny (model prog w) A (getItem o i) Q E s₂) E s₁) E s) :
    wpAny (model prog w) A (eval (.Subscript value slice pos) env) Q E s := by
  refine Subscript_ (wpAny_mono h (fun o s₁ h₁ => wpAny_mono h₁ (fun i s₂ h₂ => ?_) fun _ _ x => x) fun _ _ x => x)
  obtain ⟨hT, h₂⟩ := h₂
  unfold subscriptTail
  refine wpAny_bind ?_
  rw [getitemInPython_of_ne hT.not_modules]
  refine wpAny_bind (wpAny_specialOf hT hl ?_)
  have fin : wpAny (model prog w) A (subscripted slice false o i) (fun r s₃ => wpAny (model prog w) A (letTemporaryGo value o r >>= fun _ => pure r) Q E s₃) E s₂ := by
    rw [hs o i]
    exact wpAny_operating (wpAny_mono h₂ (fun r s₃ h₃ => wpAny_bind (wpAny_letTemporaryGo (wpAny_pure h₃))) fun _ _ x => x)
  first
    | exact wpAny_pure (wpAny_bind fin)
    | exact wpAny_bind (wpAny_pure (wpAny_bind fin))
    | exact wpAny_bind fin

theorem dict_typeIs {X : Cx} {pins : List (Addr × Obj)} {σ : St} {H : Hp} {s : Shared} {a : Addr} {y : V} {o : Option V} (I : Inv X pins σ H s) (g : DGet H a y o) : s.TypeIs (.ref a) "dict" := by
  rcases g with ⟨kvs, k, e, _, _⟩ | ⟨kvs, k, b, e, _, _, _⟩
  · obtain ⟨_, _, vs, _, dd⟩ := dk_rd I.hok e
    exact dd.typeIs
  · obtain ⟨_, _, xs, _, dd⟩ := dt_rd I.hok e
    exact dd.typeIs
/-- d[y] -/
def tDGet (td ty : TE) : TE := fun σ H Q => td σ H fun x H1 => ty σ H1 fun y H2 => ∃ a v, x = .ref a ∧ DGet H2 a y (some v) ∧ Q v H2
/-- y in d, y not in d -/
def tDIn (ty td : TE) : TE := fun σ H Q => ty σ H fun y H1 => td σ H1 fun x H2 => ∃ a o, x = .ref a ∧ DGet H2 a y o ∧ Q (.bl o.isSome) H2
def tDNotIn (ty td : TE) : TE := fun σ H Q => ty σ H fun y H1 => td σ H1 fun x H2 => ∃ a o, x = .ref a ∧ DGet H2 a y o ∧ Q (.bl (!o.isSome)) H2
/-- d[y] = v -/
def sDPut (td ty tv : TE) : TS := fun D σ H => tv σ H fun v H1 => td σ H1 fun x H2 => ty σ H2 fun y H3 => ∃ a H4, x = .ref a ∧ DPut H3 a y v H4 ∧ D.nx σ H4
section
variable {X : Cx} {o i e value : Expr} {pos pos' tpos : Pos} {td ty tv : TE}
theorem pe_dget (hu : X.A.units + 1 < cLine) (ho : PE X o td) (hi : PE X i ty) (hs : NoSl i) : PE X (.Subscript o i pos) (tDGet td ty) := by
  intro pins s σ H Q I h
  refine subD_of PySem.F.slot_dict_getitem.lookup hs (thn (ho pins s σ H _ I h) fun u s1 ⟨x, H1, I1, rx, q1⟩ => thn (hi pins s1 σ H1 _ I1 q1) fun iv s2 ⟨y, H2, I2, ry, a, v, ex, g, q2⟩ => ?_)
  subst ex
  obtain rfl : u = Value.ref a := rx
  exact ⟨dict_typeIs I2 g, d_getItem hu I2 g ry fun w' s3 I3 rw' => ⟨v, H2, I3, rw', q2⟩⟩
theorem pc_din (hu : X.A.units + 1 < cLine) (hi : PE X i ty) (ho : PE X o td) : PC X .In i o (tDIn ty td) := by
  intro pins s σ H Q I h
  refine thn (hi pins s σ H _ I h) fun iv s1 ⟨y, H1, I1, ry, q1⟩ => thn (ho pins s1 σ H1 _ I1 q1) fun u s2 ⟨x, H2, I2, rx, a, ov, ex, g, q2⟩ => ?_
  subst ex
  obtain rfl : u = Value.ref a := rx
  exact d_in hu I2 g ry fun s3 I3 => ⟨.bl ov.isSome, H2, I3, rfl, q2⟩
theorem pc_dnotin (hu : X.A.units + 1 < cLine) (hi : PE X i ty) (ho : PE X o td) : PC X .NotIn i o (tDNotIn ty td) := by
  intro pins s σ H Q I h
  refine thn (hi pins s σ H _ I h) fun iv s1 ⟨y, H1, I1, ry, q1⟩ => thn (ho pins s1 σ H1 _ I1 q1) fun u s2 ⟨x, H2, I2, rx, a, ov, ex, g, q2⟩ => ?_
  subst ex
  obtain rfl : u = Value.ref a := rx
  exact d_notIn hu I2 g ry fun s3 I3 => ⟨.bl (!ov.isSome), H2, I3, rfl, q2⟩
theorem ps_dput (hu : X.A.units + 1 < cLine) (ho : PE X o td) (hi : PE X i ty) (hv : PE X value tv) (hs : swapsWith value (some (.Subscript o i pos')) pos.line X.env = pure false) :
    PS X (.Assign [.Subscript o i pos'] value pos) (sDPut td ty tv) := by
  intro pins s σ H D I h
  refine wpAny_Assign_Subscript (thn (hv pins s σ H _ I h) fun r s1 ⟨v, H1, I1, rv, q1⟩ => thn (ho pins s1 σ H1 _ I1 q1) fun u s2 ⟨x, H2, I2, rx, q2⟩ => thn (hi pins s2 σ H2 _ I2 q2) fun iv s3 ⟨y, H3, I3, ry, a, H4, ex, g, q3⟩ => ?_) hs
  subst ex
  obtain rfl : u = Value.ref a := rx
  exact d_setItem hu I3 g ry rv fun s4 I4 => ⟨σ, H4, I4, q3⟩
end


/-! ### displays -/
theorem dk_empty {P : Program} {w : World} {H : Hp} (h : Heap) (hb : sysModules < h.objs.size) : ObjOk P w H (h.push { cls := .type "dict", data := .dict #[] }) h.objs.size (.dK []) :=
  ⟨Nat.zero_le _, beq_eq_false_iff_ne.mpr (Ne.symm (Nat.ne_of_lt hb)), [], .nil, Heap.DictOf.new h⟩
/-- {}, to be a dict of the kind that is wanted -/
def tDNewK : TE := fun _ H Q => ∀ p, H p = none → Q (.ref p) (upd H p (.dK []))
section
variable {X : Cx} {pos : Pos}
theorem pe_dnewK : PE X (.Dict [] [] pos) tDNewK := fun pins s σ H Q I h =>
  wpAny_Dict_empty ⟨.ref s.heap.objs.size, _, I.laid (a := s.heap.objs.size) (o := .dK []) (t' := s.toks) (fun _ _ q => Heap.get?_push_of_some _ q) (Nat.le_refl _) (dk_empty s.heap I.big), rfl, h _ (I.hok.fresh (Nat.le_refl _))⟩
end

/-- the pairs of a display, from the left -/
def tPairs : List (TE × TE) → St → Hp → (List (V × V) → Hp → Prop) → Prop
  | [], _, H, Q => Q [] H
  | (tk, tv) :: r, σ, H, Q => tk σ H fun x H1 => tv σ H1 fun y H2 => tPairs r σ H2 fun ps H3 => Q ((x, y) :: ps) H3
abbrev VV : List (V × V) → List (Value × Value) → Prop := Paired fun p q => RelV p.1 q.1 ∧ RelV p.2 q.2
def PPs (X : Cx) (pos : Pos) (keys : List (Option Expr)) (values : List Expr) (trs : List (TE × TE)) : Prop :=
  ∀ (pins : List (Addr × Obj)) (s : Shared) (σ : St) (H : Hp) (Q : List (V × V) → Hp → Prop), Inv X pins σ H s → tPairs trs σ H Q →
    wpAny (model X.prog X.w) X.A (evalPairs (pairTrees keys values X.env pos)) (fun vs s' => ∃ ps H', Inv X pins σ H' s' ∧ VV ps vs ∧ Q ps H') X.xe s
theorem pps_nil {X : Cx} {pos : Pos} : PPs X pos [] [] [] := fun pins s σ H Q I h => pairTrees_nil_walk ⟨[], H, I, .nil, h⟩
theorem pps_cons {X : Cx} {pos : Pos} {k v : Expr} {ks : List (Option Expr)} {vs : List Expr} {tk tv : TE} {trs : List (TE × TE)} (hk : PE X k tk) (hv : PE X v tv) (hr : PPs X pos ks vs trs) :
    PPs X pos (some k :: ks) (v :: vs) ((tk, tv) :: trs) := fun pins s σ H Q I h =>
  pairTrees_cons_walk (thn (hk pins s σ H _ I h) fun u s1 ⟨x, H1, I1, rx, q1⟩ => thn (hv pins s1 σ H1 _ I1 q1) fun w2 s2 ⟨y, H2, I2, ry, q2⟩ =>
    thn (hr pins s2 σ H2 _ I2 q2) fun ws s3 ⟨ps, H3, I3, rel, q3⟩ => ⟨(x, y) :: ps, H3, I3, .cons ⟨rx, ry⟩ rel, q3⟩)

def mergeK (kvs more : List (Key × V)) : List (Key × V) := more.foldl (fun acc kv => putK acc kv.1 kv.2) kvs
theorem KV.merge : ∀ {more : List (Key × V)} {rs : List (Key × Value)} {kvs : List (Key × V)} {vs : List (Key × Value)}, KV more rs → KV kvs vs → KV (mergeK kvs more) (merged vs rs) := by
  intro more rs kvs vs r
  unfold KV at r
  induction r generalizing kvs vs with
  | nil => intro q; exact q
  | @cons p q ps qs h t ih =>
    intro r0
    have e : KV (putK kvs p.1 p.2) (stored vs q.1 q.2) := by
      have := r0.put p.1 h.2
      rw [← h.1]; exact this
    exact ih e
theorem length_mergeK : ∀ (more kvs : List (Key × V)), (mergeK kvs more).length ≤ kvs.length + more.length
  | [], kvs => by show kvs.length ≤ kvs.length + 0; omega
  | p :: r, kvs => by
    have h1 := length_mergeK r (putK kvs p.1 p.2)
    have h2 := length_putK kvs p.1 p.2
    show (mergeK (putK kvs p.1 p.2) r).length ≤ _
    rw [List.length_cons]; omega
theorem carries_of {P : Program} {w : World} : ∀ {kvs : List (Key × V)} {ws : List (Value × Value)}, VV (kvs.map fun kv => (kV kv.1, kv.2)) ws → ∃ rs, Carries (mixKind P w) ws rs ∧ KV kvs rs
  | [], _, r => by rw [List.map_nil] at r; cases r; exact ⟨[], True.intro, .nil⟩
  | p :: kvs, _, r => by
    rw [List.map_cons] at r
    cases r with
    | @cons a b as bs h t =>
      obtain ⟨rs, c, q⟩ := carries_of (P := P) (w := w) t
      obtain ⟨b1, b2⟩ := b
      exact ⟨(p.1, b2) :: rs, ⟨kV_is h.1, rfl, c⟩, .cons ⟨rfl, h.2⟩ q⟩
/-- {k: v, ..} with keys ints and texts; the new dict stands empty while the pairs are made -/
def tDisp (trs : List (TE × TE)) : TE := fun σ H Q => ∀ p, H p = none → tPairs trs σ (upd H p (.dK [])) fun ps H2 => H2 p = some (.dK []) ∧ ∃ kvs : List (Key × V), ps = kvs.map (fun kv => (kV kv.1, kv.2)) ∧ kvs.length ≤ 15 ∧ Q (.ref p) (upd H2 p (.dK (mergeK [] kvs)))
theorem pe_disp {X : Cx} {pos : Pos} {keys : List (Option Expr)} {values : List Expr} {trs : List (TE × TE)} (h : PPs X pos keys values trs) (hall : keys.all (·.isSome) = true) (hl : keys.length = values.length) (h0 : keys ≠ [])
    (h15 : keys.length ≤ 15) : PE X (.Dict keys values pos) (tDisp trs) := by
  intro pins s σ H Q I q
  have hn := I.hok.fresh (Nat.le_refl s.heap.objs.size)
  have I1 := I.laid (a := s.heap.objs.size) (o := .dK []) (h' := s.heap.push { cls := .type "dict", data := .dict #[] }) (t' := s.toks) (fun _ _ q => Heap.get?_push_of_some _ q) (Nat.le_refl _) (dk_empty s.heap I.big)
  refine wpAny_Dict_walk (knd := mixKind X.prog X.w) hall hl h0 h15 (thn (h pins _ σ _ _ I1 (q _ hn)) fun ws s2 ⟨ps, H2, I2, rel, e, kvs, ep, lk, q2⟩ => ?_)
  subst ep
  obtain ⟨rs, c, rk⟩ := carries_of (P := X.prog) (w := X.w) rel
  obtain ⟨z, hd, vs0, r0, dd⟩ := dk_of I2.hok e
  cases r0
  refine ⟨rs, c, dd, fun h' dd' hs => ⟨.ref s.heap.objs.size, _, ?_, rfl, q2⟩⟩
  have hz : (mergeK [] kvs).length ≤ sizeLine := by
    have h1 := length_mergeK kvs []
    rw [List.length_nil] at h1
    rw [sizeLine_eq]; omega
  have he : ∃ q, h'.get? s.heap.objs.size = some q := let ⟨q, _, _, hq, _⟩ := dd'; ⟨q, hq⟩
  exact d_write I2 (by rw [e]; exact True.intro) hs he (dk_new hz hd (rk.merge .nil) dd')


/-! ### methods -/
/-- a method call o.m(e) of a built-in, with one argument: what must be seen of the text -/
structure M1 (X : Cx) (o : Expr) (m : Str) (apos : Pos) (e : Expr) (cpos : Pos) : Prop where
  base : attributeBase o m X.env (eval o X.env) = eval o X.env
  few : ((backTo cpos (starEach [e] X.env)).all (fun x => !x.1) && (backToKw cpos (keywordEach [] X.env)).all (fun x => x.1.isSome)
    && decide (([e] : List Expr).length + ([] : List Keyword).length + (if ([] : List Keyword).isEmpty then 0 else 1) < 30)) = true
  line : (apos.endLine == cpos.line) = true
  trees : backTo cpos (starEach [e] X.env) = [(false, eval e X.env)]
structure M2 (X : Cx) (o : Expr) (m : Str) (apos : Pos) (e f : Expr) (cpos : Pos) : Prop where
  base : attributeBase o m X.env (eval o X.env) = eval o X.env
  few : ((backTo cpos (starEach [e, f] X.env)).all (fun x => !x.1) && (backToKw cpos (keywordEach [] X.env)).all (fun x => x.1.isSome)
    && decide (([e, f] : List Expr).length + ([] : List Keyword).length + (if ([] : List Keyword).isEmpty then 0 else 1) < 30)) = true
  line : (apos.endLine == cpos.line) = true
  trees : backTo cpos (starEach [e, f] X.env) = [(false, eval e X.env), (false, eval f X.env)]

/-- a is a dict, whatever its keys -/
def IsD (H : Hp) (a : Addr) : Prop := (∃ kvs, Rd H a (.dK kvs)) ∨ ∃ kvs, Rd H a (.dT kvs)
theorem isD_at {X : Cx} {pins : List (Addr × Obj)} {σ : St} {H : Hp} {s : Shared} {a : Addr} (I : Inv X pins σ H s) (d : IsD H a) :
    s.TypeIs (.ref a) "dict" ∧ (∀ b, Value.ref a = .ref b → ∃ ob, s.heap.get? b = some ob ∧ ob.dict = none) ∧ (a == sysModules) = false := by
  rcases d with ⟨kvs, e⟩ | ⟨kvs, e⟩
  · obtain ⟨_, hd, vs, _, dd⟩ := dk_rd I.hok e
    refine ⟨dd.typeIs, fun b q => ?_, hd⟩
    cases q
    obtain ⟨ob, _, _, h1, h2, _⟩ := dd
    exact ⟨ob, h1, h2.2.1⟩
  · obtain ⟨_, hd, xs, _, dd⟩ := dt_rd I.hok e
    refine ⟨dd.typeIs, fun b q => ?_, hd⟩
    cases q
    obtain ⟨ob, _, _, h1, h2, _⟩ := dd
    exact ⟨ob, h1, h2.2.1⟩

section
variable {X : Cx} {pins : List (Addr × Obj)} {σ : St} {H : Hp} {s : Shared} {a : Addr} {y d : V} {u r : Value} {o : Option V} {A : Around} {E : Value → Shared → Prop}
/-- d.get(y, x) -/
theorem d_get2 {Q : Value → Shared → Prop} (hu : A.units + 1 < cLine) (I : Inv X pins σ H s) (g : DGet H a y o) (ry : RelV y u) (rd : RelV d r) (h : ∀ w' s', Inv X pins σ H s' → RelV (o.getD d) w' → Q w' s') :
    wpAny (model X.prog X.w) A (call (.builtin "dict.get") [.ref a, u, r]) Q E s := by
  rcases g with ⟨kvs, k, e, ey, l⟩ | ⟨kvs, k, b, e, ey, eb, l⟩
  · subst ey
    obtain ⟨z, hd, vs, rel, dd⟩ := dk_rd I.hok e
    refine call_meetsIn PySem.F.slot_dict_get dd.typeIs PySem.F.entry_dict_get (PySem.F.args_dict_get_3 _ _ _) (meets_dict_get_default (mixKind X.prog X.w) a (kV_is ry) hd r) ⟨_, dd.mapOf, h _ _ (I.tok _) ?_⟩
    rw [l]
    exact (rel.val k).getD rd
  · subst ey
    cases (show u = Value.ref b from ry)
    obtain ⟨z, hd, xs, rel, dd⟩ := dt_rd I.hok e
    refine call_meetsIn PySem.F.slot_dict_get dd.typeIs PySem.F.entry_dict_get (PySem.F.args_dict_get_3 _ _ _) (meetsH_dict_get_default (tupleKind (mixKind X.prog X.w)) a b hd r) ⟨tupleKind_room_in1 hu, k, xs, key_of I.hok eb, dd, h _ _ (I.tok _) ?_⟩
    rw [l]
    exact (rel.val k).getD rd
end

def tDGet2 (td ty tx : TE) : TE := fun σ H Q => td σ H fun x H1 => ∃ a, x = .ref a ∧ IsD H1 a ∧ ty σ H1 fun y H2 => tx σ H2 fun z H3 => ∃ o, DGet H3 a y o ∧ Q (o.getD z) H3
/-- d.pop(k): there; d.pop(k, x): there or not -/
def tDPop1 (td ty : TE) : TE := fun σ H Q => td σ H fun x H1 => ∃ a, x = .ref a ∧ IsD H1 a ∧ ty σ H1 fun y H2 => ∃ kvs k v, H2 a = some (.dK kvs) ∧ y = kV k ∧ valV kvs k = some v ∧ Q v (upd H2 a (.dK (dropK kvs k)))
section
variable {X : Cx} {o e f : Expr} {apos cpos : Pos} {td ty tx : TE}
theorem pe_dget2 (hu : X.A.units + 1 < cLine) (ho : PE X o td) (he : PE X e ty) (hf : PE X f tx) (m : M2 X o "get" apos e f cpos) : PE X (.Call (.Attribute o "get" apos) [e, f] [] cpos) (tDGet2 td ty tx) := by
  intro pins s σ H Q I h
  refine wpAny_Call_method m.base m.few m.line PySem.F.plainAttrs_dict PySem.F.slot_dict_get PySem.F.type_dict_get (thn (ho pins s σ H _ I h) fun u s1 ⟨x, H1, I1, rx, a, ex, d, q1⟩ => ?_)
  subst ex
  obtain rfl : u = Value.ref a := rx
  obtain ⟨t1, t2, _⟩ := isD_at I1 d
  refine ⟨t1, t2, ?_⟩
  rw [m.trees]
  refine Calls.callWith_builtin rfl (Calls.evalArgs_plain (Calls.spliced_cons (thn (he pins s1 σ H1 _ I1 q1) fun iv s2 ⟨y, H2, I2, ry, q2⟩ =>
    Calls.spliced_cons (thn (hf pins s2 σ H2 _ I2 q2) fun fv s3 ⟨z, H3, I3, rz, ov, g, q3⟩ => Calls.spliced_nil ?_))))
  exact d_get2 hu I3 g ry rz fun w' s4 I4 rw' => ⟨_, H3, I4, rw', q3⟩
theorem pe_dpop1 (ho : PE X o td) (he : PE X e ty) (m : M1 X o "pop" apos e cpos) : PE X (.Call (.Attribute o "pop" apos) [e] [] cpos) (tDPop1 td ty) := by
  intro pins s σ H Q I h
  refine wpAny_Call_method m.base m.few m.line PySem.F.plainAttrs_dict PySem.F.slot_dict_pop PySem.F.type_dict_pop (thn (ho pins s σ H _ I h) fun u s1 ⟨x, H1, I1, rx, a, ex, d, q1⟩ => ?_)
  subst ex
  obtain rfl : u = Value.ref a := rx
  obtain ⟨t1, t2, _⟩ := isD_at I1 d
  refine ⟨t1, t2, ?_⟩
  rw [m.trees]
  refine Calls.callWith_builtin rfl (Calls.evalArgs_plain (Calls.spliced_cons (thn (he pins s1 σ H1 _ I1 q1) fun iv s2 ⟨y, H2, I2, ry, kvs, k, v, ea, ey, l, q2⟩ => Calls.spliced_nil ?_)))
  subst ey
  exact d_pop I2 ea ry l (.inl rfl) fun w' s3 I3 rw' => ⟨v, _, I3, rw', q2⟩
end

/-! ### dict(d): a copy -/
section
variable {X : Cx} {pins : List (Addr × Obj)} {σ : St} {H : Hp} {s : Shared} {a : Addr} {kvs : List (Key × V)} {A : Around} {E : Value → Shared → Prop}
theorem d_copyOf {Q : Value → Shared → Prop} (I : Inv X pins σ H s) (e : Rd H a (.dK kvs)) (h : ∀ p s', H p = none → Inv X pins σ (upd H p (.dK kvs)) s' → Q (.ref p) s') : wpAny (model X.prog X.w) A (call (.type "dict") [.ref a]) Q E s := by
  obtain ⟨z, hd, vs, rel, dd⟩ := dk_rd I.hok e
  refine kt_call_dict hd dd (by rw [← rel.length]; exact z) fun h' dd' hs => ?_
  refine h _ _ (I.hok.fresh (Nat.le_refl _)) (I.laid (a := s.heap.objs.size) (o := .dK kvs) (t' := s.toks) (fun b q hq => ?_) (Nat.le_refl _) (dk_new z (beq_eq_false_iff_ne.mpr (Ne.symm (Nat.ne_of_lt I.big))) rel dd'))
  exact (hs.2 b (Nat.ne_of_lt (Heap.lt_size hq))).trans (Heap.get?_push_of_some _ hq)
end


section
variable {X : Cx} {pins : List (Addr × Obj)} {σ : St} {H : Hp} {s : Shared} {a : Addr} {y : V} {u : Value} {A : Around} {E : Value → Shared → Prop}
end
end L2

namespace Att
open PySem PySem.W PySem.Calls PyProof.Rows

/-! ### the script -/
theorem ints_of_wellAll {P : Params} {h : Heap} : ∀ (ns : List Int) (vs : List Value), WellAll P h vs (ns.map WData.int) → IntsAre vs ns := by
  intro ns
  induction ns with
  | nil =>
    intro vs w
    rw [List.map_nil] at w
    cases w
    exact .nil
  | cons n ns ih =>
    intro vs w
    rw [List.map_cons] at w
    cases w with
    | cons a b =>
      cases a
      exact .cons _ _ (ih _ b)

theorem script_of {l : OpenLaw} {n : Nat} (hn : l.most = some n) {P : Params} {h : Heap} {args : List WData} {vals : List Value}
    (hpre : l.row.toRowW.claim.pre args = true) (hwl : WellAll P h vals args) :
    ∃ a vs ns, vals = [Value.ref a] ∧ args = [WData.list (ns.map WData.int)] ∧ h.get? a = some { cls := .type "list", data := .seq vs.toArray } ∧ IntsAre vs ns ∧ ns.length ≤ n := by
  have hsh : WShape.hasAll [] args [.list .int] = true := (pre_splitW hpre).1
  have hc : l.pre.holds [] { args := args } = true := (pre_splitW hpre).2
  obtain ⟨d, r, rfl, h1, h2⟩ := hasAllW_cons hsh
  obtain rfl := hasAllW_nil h2
  obtain ⟨xs, rfl, h3⟩ := hasW_list h1
  obtain ⟨ns, rfl⟩ := items_int h3
  have hlen : ns.length ≤ n := by
    unfold OpenLaw.pre at hc
    have h4 : (WTm.not (.lt (.lit (.int (n : Int))) (.len (.arg 0)))).holds [] { args := [.list (ns.map .int)] } = true := by
      have h4 := (holds_andW hc).1
      rw [hn] at h4
      exact h4
    have h5 := condW_of h4 (w_not (w_lt w_lit (w_len_list (w_arg rfl))))
    rw [List.length_map] at h5
    refine Nat.le_of_not_lt fun q => ?_
    have q' : (n : Int) < ((ns.length : Nat) : Int) := by omega
    first
      | (rw [decide_eq_true q'] at h5; exact absurd h5 (by decide))
      | (simp at h5; omega)
  cases hwl with
  | cons w1 w2 =>
    cases w2
    cases w1 with
    | list ho hall => exact ⟨_, _, ns, rfl, rfl, ho, ints_of_wellAll ns _ hall, hlen⟩

theorem post_true (l : OpenLaw) (args : List WData) : l.row.toRowW.claim.post args (.bool true) args = true :=
  postW_of (r := l.row.toRowW) (X := (true == true))
    (show WShape.has [] (.bool true) .bool = true by first | rfl | decide | simp [WShape.has, WShape.arms, WShape.armsAll])
    (show (WTm.eq .res (.lit (.bool true))).value [] { args := args, res := some (.bool true), after := args } = some (.bool (true == true)) from w_eq_bool (w_res rfl) w_lit) rfl

/-! ### the attachment: holds_open's last premise (the goal 'hc' behind k_head) from a wpAny of the law's body -/
/-- the same from a codeAny of the CALL (for a layer whose function contracts speak of calls) -/
theorem attach_call {l : OpenLaw} {n : Nat} {q : Program} {loose : List Str} {XP : (Str → Option Value) → Heap → Prop} {YP : World → Heap → Prop} {d : DefRec}
    (hn : l.most = some n) (hdf : d.params.defaults = [])
    (call : ∀ (w : World) (s₀ s₁ : Shared) (mg mb : Str → Option Value) (fa : Addr) (o : Obj) (pm cd doc : Value) (a : Addr) (vs : List Value) (ns : List Int),
      Ground q loose [] XP w s₀ mg mb s₁.heap → YP w s₁.heap →
      s₁.heap.get? fa = some o → o.data = .func (docDef d.name d.params d.body d.scope pm cd doc) → s₁.heap.CodeRec cd d.name → mg d.name = some (.ref fa) →
      s₁.heap.get? a = some { cls := .type "list", data := .seq vs.toArray } → IntsAre vs ns → ns.length ≤ n → s₁.gens = #[] →
      codeAny (model l.prog w) callerA (.call (.ref fa) ⟨[.ref a], []⟩) (fun r s' => r = .ok (.ret (.bool true)) ∧ OldK s₁.heap s'.heap ∧ s'.os = s₁.os ∧ AllBare s'.gens) s₁) :
    WalkO q loose XP YP l.row.toRowW d [] (fun f vs => PySem.call f vs) := by
  intro w s₀ s₁ mg mb G Y fa o pm cd doc dV kV ho hd hcd hD hmg hg args vals as hpre hlay hrd hwl hlo
  obtain rfl : dV = .none := Dflts.none hD hdf
  obtain rfl : kV = .none := Dflts.noKw hD
  obtain ⟨a, vs, ns, rfl, rfl, hobj, hints, hlen⟩ := script_of hn hpre hwl
  refine enter_call (codeAny_mono (call w s₀ s₁ mg mb fa o pm cd doc a vs ns G Y ho (fd_plain hd) hcd hmg hobj hints hlen hg) fun r s' hq => ?_)
  obtain ⟨rfl, h2, h3, h4⟩ := hq
  exact ⟨.inl ⟨.bool true, .bool true, [], rfl, fun _ => rfl, .bool true, post_true l _, fun _ => ⟨List.Pairwise.nil, fun _ hm => (nomatch hm)⟩⟩, h2, h3, h4⟩

/-! ### rules over ANY heap (no ledger) from facts about the written part K: the library's own take a ledger (News) for what they write -/
section
variable {prog : Program} {w : World} {A : Around} {E : Value → Shared → Prop} {s : Shared} {K : Frag}

/-! the whole heap as the ledger: makes every rule that writes through a ledger a rule over any heap -/
def ledger (h : Heap) (L d : Addr) : List (Addr × Obj) := (List.range h.objs.size).filterMap fun a => if a = L ∨ a = d then none else (h.get? a).map fun o => (a, o)
end
end Att

namespace L2
open PySem PySem.Spec PyProof.Rows

theorem vals_ints : ∀ {vs : List Value} {ns : List Int}, IntsAre vs ns → Vals (ns.map V.int) vs
  | _, _, .nil => .nil
  | _, _, .cons n t h => .cons ⟨t, rfl⟩ (vals_ints h)

/-- nothing is tracked but the script, known to the object (or it is an object of the module) -/
def Only (H : Hp) : Prop := ∀ b, H b = none ∨ ∃ o xs, H b = some (.frz o (.lst xs))

/-- THE HEAD: the law's promise, at the heap behind the top. F, the promise of the law's def, may use that base is part of the heap (so K.In base, base.Ns mainGlobals mg stand in Mod) -/
theorem law_call {P : Program} {w : World} {K : PySem.W.Frag} {mg mb : Str → Option Value} {CX : CXT} {k : Nat} {fa a : Addr} {fd : FuncData} {x : Str} {sp : Sp} {s₁ : Shared} {vs : List Value} {ns : List Int}
    (KX : K.In s₁.heap) (hns : s₁.heap.Ns mainGlobals mg) (hb : s₁.heap.Ns builtinsNs mb) (hbb : ∀ x : Str, x ≠ "__name__" → mb x = bootBuiltins x) (hlim : s₁.heap.NoLimit) (hg : s₁.gens = #[])
    (ha : s₁.heap.get? a = some { cls := .type "list", data := .seq vs.toArray }) (hi : IntsAre vs ns) (hl : ns.length ≤ sizeLine) (hr : Room k callerA)
    (F : ∀ base : Heap, K.In base → base.Ns mainGlobals mg → FnOk P w K mg base CX k fa fd [x] sp) (hbind : ∀ (s : Shared) (u : Value), BindsTo s fd ⟨[u], []⟩ [(x, u)])
    (hsp : ∀ H : Hp, Only H → SqL K H a (ns.map V.int) → sp [.ref a] H (fun v _ => v = .bl true) fun _ _ _ => False)
    (hCX : ∀ H e s', CX [] H s₁ (fun _ _ _ => False) e s' → False) :
    codeAny (model P w) callerA (.call (.ref fa) ⟨[.ref a], []⟩) (fun r s' => r = .ok (.ret (.bool true)) ∧ OldK s₁.heap s'.heap ∧ s'.os = s₁.os ∧ AllBare s'.gens) s₁ := by
  have rv := vals_ints hi
  have lenV := hi.length
  -- from an abstract heap in which nothing but the script may be tracked
  have core : ∀ H : Hp, Only H → SqL K H a (ns.map V.int) → HOk P w H s₁.heap → (∀ b, H b ≠ none → b = a) → (H a ≠ none → K.lookup a = none) →
      codeAny (model P w) callerA (.call (.ref fa) ⟨[.ref a], []⟩) (fun r s' => r = .ok (.ret (.bool true)) ∧ OldK s₁.heap s'.heap ∧ s'.os = s₁.os ∧ AllBare s'.gens) s₁ := by
    intro H hO hS hok hA hK
    have base_of : ∀ {b : Addr} {o : Obj}, s₁.heap.get? b = some o → H b = none → (hidT s₁.heap H).get? b = some o := fun e n => hidT_get e n
    have noA : ∀ {b : Addr} {o : Obj} {es : Array DictEntry} {ep : Nat}, s₁.heap.get? b = some o → o.data = .dict es ep → H b = none := fun {b o es ep} e d => by
      cases q : H b with
      | none => rfl
      | some u =>
        have e' : b = a := hA b (by rw [q]; simp)
        subst e'
        rw [ha] at e; cases e
        have d' : Data.seq vs.toArray _ = Data.dict es ep := d
        cases d'
    have nsK : ∀ {b : Addr} {m : Str → Option Value}, s₁.heap.Ns b m → (hidT s₁.heap H).Ns b m := fun {b m} ⟨o, es, ep, e, d, r⟩ => ⟨o, es, ep, base_of e (noA e d), d, r⟩
    have hKb : K.In (hidT s₁.heap H) := fun b o e => base_of (KX b o e) (by
      cases q : H b with
      | none => rfl
      | some u =>
        have e' : b = a := hA b (by rw [q]; simp)
        subst e'
        rw [hK (by rw [q]; simp)] at e; cases e)
    have hM : Mod K mg (hidT s₁.heap H) := ⟨hKb, nsK hns, ⟨mb, nsK hb, hbb⟩, let ⟨mc, h1, h2⟩ := hlim; ⟨mc, nsK h1, h2⟩⟩
    have e0 : Env0 P w K mg (hidT s₁.heap H) callerA [] s₁ H := ⟨rfl, hM, fun b o e => of_hidT e, Nat.le_of_eq (hidT_size _ _), trivial, fun b hb => absurd (show b ∈ ([] : List Addr) from hb) (by simp), hok, .of_eq hg⟩
    refine codeAny_mono ((F _ hKb (nsK hns)).run callerA [] s₁ H ⟨[.ref a], []⟩ [.ref a] [.ref a] _ _ hr e0 (hbind s₁ (.ref a)) (.cons rfl .nil) (hsp H hO hS)) fun r s' h => ?_
    cases r with
    | error e => exact (hCX H e s' h).elim
    | ok fl =>
      cases fl with
      | next => exact False.elim h
      | brk => exact False.elim h
      | cont => exact False.elim h
      | ret u =>
        obtain ⟨v, H', os, bare, un, hok', r', q⟩ := h
        have q' : v = .bl true := q
        subst q'
        obtain rfl : u = Value.bool true := r'
        refine ⟨rfl, OldK.of_keep fun b o e => ?_, os, bare⟩
        cases q : H b with
        | none => exact un.keep b o e q (by intro z; exact absurd (show b ∈ ([] : List Addr) from z) (by simp)) (by simp)
        | some u =>
          rcases hO b with z | ⟨ob, xs, z⟩
          · rw [q] at z; cases z
          · have z2 := un.frzs b ob _ z
            obtain ⟨e1, _⟩ := hok b _ z
            obtain ⟨e2, _⟩ := hok' b _ z2
            rw [e] at e1; cases e1
            exact e2
  cases hk : K.lookup a with
  | some o =>
    -- the script is one of the module's own objects
    have e := KX a o hk
    rw [ha] at e
    cases e
    refine core (fun _ => none) (fun _ => .inl rfl) (.inr ⟨_, vs.toArray, _, hk, rfl, rfl, rfl, by rw [List.size_toArray, lenV]; exact hl, by simpa using rv⟩) (fun b u z => by have z' : (none : Option HO) = some u := z; cases z') (fun b z => absurd rfl z) fun z => absurd rfl z
  | none =>
    refine core (fun b => if b = a then some (.frz { cls := .type "list", data := .seq vs.toArray } (.lst (ns.map V.int))) else none) (fun b => ?_) (.inl (.inr ⟨{ cls := .type "list", data := .seq vs.toArray }, if_pos rfl⟩)) (fun b u z => ?_) (fun b z => ?_) fun _ => hk
    · by_cases hb : b = a
      · exact .inr ⟨_, _, if_pos hb⟩
      · exact .inl (if_neg hb)
    · by_cases hb : b = a
      · have z' := (if_pos hb).symm.trans z
        cases z'
        subst hb
        exact ⟨ha, by rw [List.length_map]; exact hl, vs, _, rv, ha⟩
      · have z' := (if_neg hb).symm.trans z
        cases z'
    · by_cases hb : b = a
      · exact hb
      · exact absurd (if_neg hb) z
end L2

namespace L2
open PySem PySem.Spec PyProof.Rows

/-- the goal that k_head leaves (case hc), from the law's promise. F gives the function object fd (K's own) once, then the promise over every base -/
theorem walk_of {l : PySem.W.OpenLaw} {n k : Nat} {q : Program} {loose : List Str} {XP : (Str → Option Value) → Heap → Prop} {YP : World → Heap → Prop} {d : DefRec} {K : Params → PySem.W.Frag} {CX : World → CXT} {sp : World → Sp} {x : Str}
    (hn : l.most = some n) (hn2 : n ≤ sizeLine) (hdf : d.params.defaults = []) (hr : Room k callerA)
    (hY : ∀ (w : World) (h : Heap), YP w h → (K w.params).In h)
    (F : ∀ (w : World) (mg : Str → Option Value) (fa : Addr) (h : Heap), (K w.params).In h → h.Ns mainGlobals mg → mg d.name = some (.ref fa) →
      ∃ fd : FuncData, (∀ (s : Shared) (u : Value), BindsTo s fd ⟨[u], []⟩ [(x, u)]) ∧
        ∀ base : Heap, (K w.params).In base → base.Ns mainGlobals mg → FnOk l.prog w (K w.params) mg base (CX w) k fa fd [x] (sp w))
    (hsp : ∀ (w : World) (H : Hp) (a : Addr) (ns : List Int), ns.length ≤ n → Only H → SqL (K w.params) H a (ns.map V.int) → sp w [.ref a] H (fun v _ => v = .bl true) fun _ _ _ => False)
    (hCX : ∀ (w : World) (H : Hp) (s : Shared) (e : Value) (s' : Shared), CX w [] H s (fun _ _ _ => False) e s' → False) :
    PySem.W.WalkO q loose XP YP l.row.toRowW d [] (fun f vs => PySem.call f vs) := by
  refine Att.attach_call hn hdf fun w s₀ s₁ mg mb fa o pm cd doc a vs ns G Y ho hd hcd hmg hobj hints hlen hg => ?_
  have KX := hY w _ Y
  obtain ⟨fd, hb, hF⟩ := F w mg fa _ KX G.T.g hmg
  exact law_call KX G.T.g G.T.b G.T.builtins G.T.nolimit hg hobj hints (Nat.le_trans hlen hn2) hr hF hb (fun H hO hS => hsp w H a ns hlen hO hS) fun H e s' => hCX w H s₁ e s'
end L2

/- THE LAST THEOREM (shape; LID, My.* are yours):
   My.Adr: a structure of the addresses that your layer names (classes, functions); My.Txt K t: a structure (Prop) of the equations over K;
   My.txt_mk : {K} {implicit addresses ..} (e1 : nsIn K mainGlobals "law" = some (some (.ref f))) (e2 : K.lookup f = some ⟨oc, od, .func (fnOf "law" "law" params body scope dV kV doc pm an cdv ct), sl⟩) (e3 : codeIn K cdv "law" = true) .. : ∃ t, My.Txt K t

(the tactic k_is has no namespace: write k_is) -/

/-! SHORT WORDS over the layer: a def of the text, its body, what a loop and a test want. -/
namespace L2
open PySem PySem.Spec PyProof.Rows

/-! ### the text by places -/
/-- the j-th statement of a class's body -/
def inClass (s : Stmt) (j : Nat) : Stmt := match s with
  | .ClassDef _ _ _ body _ _ _ _ _ _ _ => body.getD j (.Pass ⟨0, 0, 0, 0⟩)
  | _ => .Pass ⟨0, 0, 0, 0⟩
def defArgs (s : Stmt) : Arguments := match s with
  | .FunctionDef _ a _ _ _ _ _ _ _ _ => a
  | _ => { posonlyargs := [], args := [], vararg := none, kwonlyargs := [], kw_defaults := [], kwarg := none, defaults := [] }
def defBody (s : Stmt) : List Stmt := match s with
  | .FunctionDef _ _ b _ _ _ _ _ _ _ => b
  | _ => []
def defScope (s : Stmt) : Scope := match s with
  | .FunctionDef _ _ _ _ _ _ sc _ _ _ => sc
  | _ => { kind := .function, names := [], isGenerator := false, isCoroutine := false }

/-! ### no exception leaves a def -/
abbrev CX0 : CXT := fun _ _ _ _ _ _ => False
abbrev E0 : XK := fun _ _ _ => False
theorem pass0 {X : Cx} : Passes CX0 X E0 := fun _ _ _ _ _ _ _ h => h.elim

/-! ### a def (or method) of the text as it stands behind the top -/
structure Fun (K : PySem.W.Frag) (x qual : Str) (st : Stmt) (f : Addr) (fd : FuncData) : Prop where
  ex : ∃ (oc : Value) (od : Option Addr) (kV doc pm : Value) (an : Option Addr) (cdv ct : Value) (osl : Array (Option Value)),
    fd = PySem.W.fnOf x qual (defArgs st) (defBody st) (defScope st) .none kV doc pm an cdv ct ∧ K.lookup f = some ⟨oc, od, .func fd, osl⟩ ∧ PySem.W.codeIn K cdv qual = true
  kp : PySem.W.keepIn K (.ref f) = true
section
variable {P : Program} {w : World} {K : PySem.W.Frag} {mg : Str → Option Value} {base : Heap}
/-- THE RULE for a def: its body as a term of rules, and the reading of that term -/
theorem Fun.ok {x qual : Str} {st : Stmt} {f : Addr} {fd : FuncData} {N ps : List Str} {k : Nat} {sp : Sp} (F : Fun K x qual st f fd) (S : FnScope N ps (defScope st)) (len : ∀ vs H Q E, sp vs H Q E → vs.length = ps.length)
    (hbody : ∀ (cdv : Value) (A : Around) (outer : List Env) (s : Shared) (H : Hp) (vs : List V) (Q : VK) (E : XK), Room k (A.deeper (envOfC qual (defScope st) s.heap.objs.size f cdv)) → sp vs H Q E →
      ∃ t, PSs (cxOf CX0 P w K mg base N qual (defScope st) f cdv A outer s H E).nox (defBody st) t ∧ t { nx := fun _ H' => Q .non H', rt := Q } (start N vs) H) : FnOk P w K mg base CX0 (k + 1) f fd ps sp := by
  obtain ⟨oc, od, kV, doc, pm, an, cdv, ct, osl, rfl, lk, hcd⟩ := F.ex
  refine fn_of lk hcd S len fun A outer s H vs Q E hr hsp => ?_
  obtain ⟨t, h, q⟩ := hbody cdv A outer s H vs Q E hr hsp
  exact ⟨t, h.nox, q⟩
/-- how its arguments bind (no defaults): h is «fun _ _ _ _ _ _ us hl => match us, hl with | [_, _], _ => rfl», one _ a parameter -/
theorem Fun.binds {x qual : Str} {st : Stmt} {f : Addr} {fd : FuncData} {ps : List Str} (F : Fun K x qual st f fd)
    (h : ∀ (kV doc pm : Value) (an : Option Addr) (cdv ct : Value) (us : List Value), us.length = ps.length → bindArgs (PySem.W.fnOf x qual (defArgs st) (defBody st) (defScope st) .none kV doc pm an cdv ct) ⟨us, []⟩ = pure (ps.zip us)) : Binds K fd ps [] := by
  obtain ⟨oc, od, kV, doc, pm, an, cdv, ct, osl, rfl, lk, hcd⟩ := F.ex
  exact .all (h kV doc pm an cdv ct)
theorem fun_mk {x qual : Str} {st : Stmt} {f : Addr} {oc : Value} {od an : Option Addr} {osl : Array (Option Value)} {kV doc pm cdv ct : Value} (l : K.lookup f = some ⟨oc, od, .func (PySem.W.fnOf x qual (defArgs st) (defBody st) (defScope st) .none kV doc pm an cdv ct), osl⟩)
    (c : PySem.W.codeIn K cdv qual = true) (k : PySem.W.keepIn K (.ref f) = true) : Fun K x qual st f (PySem.W.fnOf x qual (defArgs st) (defBody st) (defScope st) .none kV doc pm an cdv ct) := ⟨⟨oc, od, kV, doc, pm, an, cdv, ct, osl, rfl, l, c⟩, k⟩
end
theorem hu_of {A : Around} {k : Nat} (hr : Room k A) : A.units + 1 < cLine := Nat.lt_of_le_of_lt (Nat.add_le_add_left (by decide : 1 ≤ 64) _) hr.units
/-! ### expressions in short: the name that stands in the i-th slot -/
section
variable {X : Cx}
theorem pv (i : Nat) {x : Str} {pos : Pos} (hN : X.N[i]? = some x := by rfl) (hv : Vis X.env.scope x := by first | exact Or.inl rfl | exact Or.inr (Or.inl rfl) | exact Or.inr (Or.inr rfl)) (hd : (x == ("__debug__" : Str)) = false := by decide)
    (hcd : (x == ("__classdict__" : Str)) = false := by decide) : PE X (.Name x pos) (tVar i) := pe_var hN hv hd hcd
/-- len of a dict -/
theorem call_lenD : CallR X (.builtin "len") (fun xs H Q => ∃ a kvs, xs = [V.ref a] ∧ H a = some (.dK kvs) ∧ Q (.int kvs.length) H) := by
  intro pins s σ H xs us Q I r h
  obtain ⟨a, kvs, rfl, ha, q⟩ := h
  obtain ⟨u, rfl, ru⟩ := vals1 r
  cases ru
  exact d_len I (.inl ha) fun t s' I' => ⟨.int kvs.length, H, I', ⟨t, rfl⟩, q⟩
end

/-! ### tests -/
theorem iteF {A B : Prop} (h : B) : if false = true then A else B := by
  rw [if_neg Bool.false_ne_true]
  exact h
theorem iteT {A B : Prop} (h : A) : if true = true then A else B := by
  rw [if_pos rfl]
  exact h
theorem ite2 {c A B : Prop} [Decidable c] (h1 : c → A) (h2 : ¬ c → B) : if c then A else B := by
  by_cases h : c
  · rw [if_pos h]
    exact h1 h
  · rw [if_neg h]
    exact h2 h
/-! ### heaps -/
/-- all that was tracked is as it was -/
def Same (H H' : Hp) : Prop := ∀ b o, H b = some o → H' b = some o
theorem Same.refl (H : Hp) : Same H H := fun _ _ h => h
theorem Same.trans {H H1 H2 : Hp} (a : Same H H1) (b : Same H1 H2) : Same H H2 := fun c o h => b c o (a c o h)
theorem Same.free {H H' : Hp} (e : Same H H') {l : Addr} (h : H' l = Option.none) : H l = Option.none := by
  cases q : H l with
  | none => rfl
  | some o =>
    rw [e l o q] at h
    cases h
theorem Same.seq {K : PySem.W.Frag} {H H' : Hp} {a : Addr} {xs : List V} (e : Same H H') (h : SqL K H a xs) : SqL K H' a xs := by
  rcases h with (h | ⟨o, h⟩) | h
  · exact .inl (.inl (e _ _ h))
  · exact .inl (.inr ⟨o, e _ _ h⟩)
  · exact .inr h

/-! ### a dict's pairs: keys that differ -/
section
variable {κ : Type} [DecidableEq κ]
theorem nd_snoc : ∀ {l : List κ} {k : κ}, l.Nodup → ¬ k ∈ l → (l ++ [k]).Nodup
  | [], k, _, _ => by simp
  | a :: r, k, h, hk => by
    obtain ⟨h1, h2⟩ := List.nodup_cons.mp h
    show (a :: (r ++ [k])).Nodup
    refine List.nodup_cons.mpr ⟨fun m => ?_, nd_snoc h2 fun m => hk (List.mem_cons.mpr (Or.inr m))⟩
    rcases List.mem_append.mp m with q | q
    · exact h1 q
    · exact hk (List.mem_cons.mpr (Or.inl (List.mem_singleton.mp q).symm))
theorem dropK_pos {p : κ × V} {r : List (κ × V)} {k : κ} (e : p.1 = k) : dropK (p :: r) k = dropK r k := by
  unfold dropK
  rw [List.filter_cons, if_neg (by simp [e])]
theorem dropK_neg {p : κ × V} {r : List (κ × V)} {k : κ} (e : ¬ p.1 = k) : dropK (p :: r) k = p :: dropK r k := by
  unfold dropK
  rw [List.filter_cons, if_pos (by simp [e])]
end
end L2

namespace L2
open PySem PySem.Spec PyProof.Rows

/-! ## A comprehension -/
theorem mem_of_lk {κ β : Type} [BEq κ] [LawfulBEq κ] {k : κ} {v : β} : ∀ {l : List (κ × β)}, l.lookup k = some v → (k, v) ∈ l
  | [], h => by simp at h
  | (a, b) :: r, h => by
    rw [List.lookup_cons] at h
    cases e : k == a with
    | true =>
      rw [e] at h
      simp at h
      rw [eq_of_beq e, h]
      exact List.mem_cons_self
    | false =>
      rw [e] at h
      exact List.mem_cons_of_mem _ (mem_of_lk h)
theorem lk_of_mem {κ β : Type} [BEq κ] [LawfulBEq κ] {k : κ} {v : β} : ∀ {l : List (κ × β)}, (k, v) ∈ l → ∃ w, l.lookup k = some w
  | [], h => by simp at h
  | (a, b) :: r, h => by
    rw [List.lookup_cons]
    cases e : k == a with
    | true => exact ⟨b, rfl⟩
    | false =>
      rcases List.mem_cons.mp h with h | h
      · injection h with h1 h2
        rw [h1] at e
        simp at e
      · exact lk_of_mem h
/-- the closure of a comprehension's block: the free names' cells -/
theorem closure_ok {env : Env} {scope : Scope} (h : ∀ x ∈ scope.names, x.2 = .free → ∃ c, env.cells.lookup x.1 = some c) :
    ∃ cl, closureFor scope env = pure cl ∧ (∀ x c, (x, c) ∈ cl → (x, NameKind.free) ∈ scope.names ∧ env.cells.lookup x = some c) ∧ ∀ x, (x, NameKind.free) ∈ scope.names → ∃ c, (x, c) ∈ cl := by
  have all : ∀ (names : List (Str × NameKind)) (acc : List (Str × Addr)), (∀ x ∈ names, x.2 = .free → ∃ c, env.cells.lookup x.1 = some c) →
      ∃ cl : List (Str × Addr), (forIn names acc fun (x : Str × NameKind) (r : List (Str × Addr)) => (if (x.2 == NameKind.free) = true then do let c ← cellOf env x.1; pure (ForInStep.yield ((x.1, c) :: r)) else pure (ForInStep.yield r) : Sem (ForInStep (List (Str × Addr))))) = pure cl ∧
        (∀ x c, (x, c) ∈ cl → (x, c) ∈ acc ∨ ((x, NameKind.free) ∈ names ∧ env.cells.lookup x = some c)) ∧ (∀ p ∈ acc, p ∈ cl) ∧ ∀ x, (x, NameKind.free) ∈ names → ∃ c, (x, c) ∈ cl := by
    intro names
    induction names with
    | nil => intro acc _; exact ⟨acc, rfl, fun x c h => .inl h, fun p h => h, fun x h => by simp at h⟩
    | cons y r ih =>
      intro acc hy
      obtain ⟨n, k⟩ := y
      by_cases hk : k = .free
      · subst hk
        obtain ⟨c, hc⟩ := hy (n, .free) List.mem_cons_self rfl
        obtain ⟨cl, e, h1, h2, h3⟩ := ih ((n, c) :: acc) fun x hx => hy x (List.mem_cons_of_mem _ hx)
        refine ⟨cl, ?_, fun x d hd => ?_, fun p hp => h2 p (List.mem_cons_of_mem _ hp), fun x hx => ?_⟩
        · rw [List.forIn_cons]
          have hcell : cellOf env n = pure c := by unfold cellOf; rw [hc]
          simp only [beq_self_eq_true, if_true, hcell, pure_bind]
          exact e
        · rcases h1 x d hd with q | ⟨q1, q2⟩
          · rcases List.mem_cons.mp q with q | q
            · injection q with q1 q2
              subst q1 q2
              exact .inr ⟨List.mem_cons_self, hc⟩
            · exact .inl q
          · exact .inr ⟨List.mem_cons_of_mem _ q1, q2⟩
        · rcases List.mem_cons.mp hx with q | q
          · injection q with q1 _
            subst q1
            exact ⟨c, h2 _ List.mem_cons_self⟩
          · exact h3 x q
      · obtain ⟨cl, e, h1, h2, h3⟩ := ih acc fun x hx => hy x (List.mem_cons_of_mem _ hx)
        refine ⟨cl, ?_, fun x d hd => (h1 x d hd).imp id fun q => ⟨List.mem_cons_of_mem _ q.1, q.2⟩, h2, fun x hx => ?_⟩
        · rw [List.forIn_cons]
          have hb : (k == NameKind.free) = false := by simpa using hk
          simp only [hb, Bool.false_eq_true, if_false, pure_bind]
          exact e
        · rcases List.mem_cons.mp hx with q | q
          · injection q with _ q2
            exact absurd q2.symm hk
          · exact h3 x q
  obtain ⟨cl, e, h1, _, h3⟩ := all scope.names [] h
  refine ⟨cl, ?_, fun x c q => (h1 x c q).resolve_left (by simp), h3⟩
  show ((forIn scope.names ([] : List (Str × Addr)) fun (x : Str × NameKind) (r : List (Str × Addr)) => (if (x.2 == NameKind.free) = true then do let c ← cellOf env x.1; pure (ForInStep.yield ((x.1, c) :: r)) else pure (ForInStep.yield r) : Sem (ForInStep (List (Str × Addr))))) >>= fun r => pure r) = pure cl
  rw [e]
  rfl

theorem lk_relabel_free {env : Env} : ∀ {names : List (Str × NameKind)} {x : Str}, names.lookup x = some .free →
    (names.map fun (n, k) => if (k == NameKind.free && env.scope.kind == .function && env.kindOf n == some .cell) then (n, NameKind.cell) else (n, k)).lookup x = some .cell ∨
    (names.map fun (n, k) => if (k == NameKind.free && env.scope.kind == .function && env.kindOf n == some .cell) then (n, NameKind.cell) else (n, k)).lookup x = some .free
  | [], _, h => by simp at h
  | (n, k) :: r, x, h => by
    have ih := @lk_relabel_free env r x
    show List.lookup x ((if (k == NameKind.free && env.scope.kind == .function && env.kindOf n == some .cell) = true then (n, NameKind.cell) else (n, k)) :: _) = _ ∨ List.lookup x ((if (k == NameKind.free && env.scope.kind == .function && env.kindOf n == some .cell) = true then (n, NameKind.cell) else (n, k)) :: _) = _
    cases hx : x == n with
    | true =>
      simp only [List.lookup_cons, hx] at h
      cases h
      by_cases hc : (NameKind.free == NameKind.free && env.scope.kind == .function && env.kindOf n == some .cell) = true
      · rw [if_pos hc]; simp only [List.lookup_cons, hx]; exact .inl trivial
      · rw [if_neg hc]; simp only [List.lookup_cons, hx]; exact .inr trivial
    | false =>
      simp only [List.lookup_cons, hx] at h
      by_cases hc : (k == NameKind.free && env.scope.kind == .function && env.kindOf n == some .cell) = true
      · rw [if_pos hc]; simp only [List.lookup_cons, hx]; exact ih h
      · rw [if_neg hc]; simp only [List.lookup_cons, hx]; exact ih h

/-- the context of a comprehension's block -/
def cxComp (X : Cx) (scope : Scope) (N : List Str) (cl : List (Str × Addr)) (C : Addr) (s : Shared) (H : Hp) (fp : List Addr) (pn : List (Addr × Obj)) : Cx :=
  { X with N := N, s₀ := s, H₀ := H, env := compEnvC scope cl C X.env, outer := X.stack, stack := X.stack, ex := fp, fn := fun _ => false, pn := pn, xe := fun _ _ => False }
/-- the captured names: their slots without, their names -/
def CapsOk (X : Cx) (scope : Scope) : List (Nat × Str) → Prop
  | [] => True
  | p :: r => (X.N[p.1]? = some p.2 ∧ scope.names.lookup p.2 = some .free ∧ (X.env.scope.names.lookup p.2 = some .cell ∨ X.env.scope.names.lookup p.2 = some .free)) ∧ CapsOk X scope r
theorem CapsOk.get {X : Cx} {scope : Scope} : ∀ {caps : List (Nat × Str)} {j : Nat} {p : Nat × Str}, CapsOk X scope caps → caps[j]? = some p →
    X.N[p.1]? = some p.2 ∧ scope.names.lookup p.2 = some .free ∧ (X.env.scope.names.lookup p.2 = some .cell ∨ X.env.scope.names.lookup p.2 = some .free)
  | [], _, _, _, h => by simp at h
  | q :: r, 0, p, h, e => by simp at e; subst e; exact h.1
  | q :: r, j + 1, p, h, e => CapsOk.get h.2 (by simpa using e)
/-- the slots of the block at its entry -/
def capSt (own : List Str) (caps : List (Nat × Str)) (σ : St) : St := own.map (fun _ => none) ++ caps.map fun p => (σ[p.1]?).join
/-- a comprehension's turns: W what holds ahead of each, with a measure -/
def CompW (J : It) (D : Addr) (σ0 : St) (H1 : Hp) (g : TG) (tf : TT) (te : TE) (Q : VK) : Prop := ∃ W : Nat → Nat → St → Hp → Prop,
  (∃ m, W 0 m σ0 (upd H1 D (.lst []))) ∧ ∀ i m σ' H', W i m σ' H' →
    (J.stop i H' ∧ Q (.ref D) H') ∨ (J.go i H' ∧ ∀ x H2, J.yld i H' x H2 → g x σ' H2 fun σ2 H3 => tf σ2 H3 fun b H4 =>
      if b = true then te σ2 H4 fun v H5 => ∃ ys, H5 D = some (.lst ys) ∧ ys.length < sizeLine ∧ ∃ m', m' < m ∧ W (i + 1) m' σ2 (upd H5 D (.lst (ys ++ [v])))
      else ∃ m', m' < m ∧ W (i + 1) m' σ2 H4)
/-- a comprehension's reading -/
def tComp (wi : TI) (own : List Str) (caps : List (Nat × Str)) (g : TG) (tf : TT) (te : TE) : TE := fun σ H Q => wi σ H fun J H1 => ∀ D, H1 D = none → CompW J D (capSt own caps σ) H1 g tf te Q
def PTs (X : Cx) (ifs : List Expr) (t : TT) : Prop :=
  ∀ (pins : List (Addr × Obj)) (s : Shared) (σ : St) (H : Hp) (Q : Bool → Hp → Prop), Inv X pins σ H s → t σ H Q → wpAny (model X.prog X.w) X.A (forIn ifs true fun c r => if r = true then do let ok ← isTrue c X.env (eval c X.env); pure (ForInStep.yield ok) else pure (ForInStep.yield r)) (TP X pins σ Q) X.xe s
def tTrue : TT := fun _ H Q => Q true H
theorem pts_nil {X : Cx} : PTs X [] tTrue := fun _ _ _ H _ I h => wpAny_tests_nil ⟨H, I, h⟩
theorem pts_one {X : Cx} {c : Expr} {t : TT} (h : PT X c t) : PTs X [c] t := fun pins s σ H Q I hw => wpAny_tests_one (h pins s σ H Q I hw)

theorem comp_loop {prog : Program} {w : World} {A : Around} {R : Result → Shared → Prop} {s : Shared} {elt target iter : Expr} {ifs : List Expr} {scope : Scope} {pos : Pos} {it acc : Value} {env : Env} (I : Nat → Shared → Prop)
    (turn : ∀ n s, I n s → wpAny (model prog w) A (pyNext it) (fun r s₁ => match r with
      | none => R (.ok .next) s₁
      | some v => wpAny (model prog w) A (letOwnedTupleGo target it v) (fun _ s₁' => wpAny (model prog w) A (assign target env v) (fun _ s₂ =>
          wpAny (model prog w) A (forIn ifs true fun c r => if r = true then do let ok ← isTrue c env (eval c env); pure (ForInStep.yield ok) else pure (ForInStep.yield r)) (fun ok s₃ =>
            if ok = true then wpAny (model prog w) A (eval elt env) (fun x s₄ =>
              wpAny (model prog w) A (call (.builtin "list.append") [acc, x]) (fun _ s₅ => ∃ m, m < n ∧ I m s₅) (fun _ _ => False) s₄) (fun _ _ => False) s₃
            else ∃ m, m < n ∧ I m s₃) (fun _ _ => False) s₂) (fun _ _ => False) s₁') (fun _ _ => False) s₁) (fun _ _ => False) s)
    (n : Nat) (h : I n s) :
    codeAny (model prog w) A (.compLoop (.ListComp elt [⟨target, iter, ifs, 0⟩] scope pos) 0 it acc env) R s := by
  refine codeAny_loop rfl I (fun n s hI => ?_) n h
  show wpAny _ A ((compTurn (.ListComp elt [⟨target, iter, ifs, 0⟩] scope pos) 0 it acc env).onRaise (fun x => do noteFrame x env; theTreesLotGoes x)) _ _ s
  refine wpAny_noted ?_
  rw [compTurn_list]
  refine wpAny_bind (wpAny_standAt (wpAny_bind (wpAny_mono (turn n s hI) (fun r s₁ h₁ => ?_) fun _ _ h' => h'.elim)))
  cases r with
  | none => exact wpAny_pure h₁
  | some v =>
    refine wpAny_bind (wpAny_mono h₁ (fun _ s₁' h₁' => ?_) fun _ _ h' => h'.elim)
    refine wpAny_bind (wpAny_mono h₁' (fun _ s₂ h₂ => wpAny_bind (wpAny_mono h₂ (fun ok s₃ h₃ => ?_) fun _ _ h' => h'.elim)) fun _ _ h' => h'.elim)
    cases ok with
    | false => exact wpAny_pure ⟨rfl, h₃⟩
    | true =>
      exact wpAny_bind (wpAny_bind (wpAny_mono h₃ (fun x s₄ h₄ => wpAny_bind (wpAny_mono h₄ (fun _ s₅ h₅ => wpAny_pure (wpAny_pure ⟨rfl, h₅⟩)) fun _ _ h' => h'.elim)) fun _ _ h' => h'.elim))

section
variable {X : Cx} {pins : List (Addr × Obj)} {σ : St}
/-- what is without a comprehension's block, seen from within -/
theorem comp_ok {H2 : Hp} {s2 : Shared} {fp : List Addr} {scope : Scope} {N : List Str} {cl : List (Str × Addr)} {C : Addr} (I2 : Inv X pins σ H2 s2) (f2 : ∀ b ∈ fp, FpOk X pins H2 b) (hC : s2.heap.objs.size < C)
    (hfs : ∀ b ∈ fp, b < s2.heap.objs.size) (hkind : scope.kind = .function) (hcl : ∀ x c, cl.lookup x = some c → X.env.cells.lookup x = some c)
    (hhas : ∀ x, ((relabel scope X.env).names.lookup x = some .cell ∨ (relabel scope X.env).names.lookup x = some .free) → ∃ c, cl.lookup x = some c) :
    (cxComp X scope N cl C s2 H2 fp (X.pn ++ pins)).Ok where
  mod := I2.ok.mod
  kind := hkind
  glob := I2.ok.glob
  blt := I2.ok.blt
  above := Nat.le_of_lt hC
  inj := fun x y c h1 h2 => I2.ok.inj x y c (hcl x c h1) (hcl y c h2)
  has := hhas
  cab := fun _ _ h _ => by cases h
  hd := I2.ok.hd
  frames := I2.ok.frames
  stk := .inl rfl
  exf := fun b hb => ⟨Nat.ne_of_lt (Nat.lt_trans (hfs b hb) hC), fun x c e => (f2 b hb).2.2.2.2.1 x c (hcl x c e)⟩
  bs := I2.bs
  bsz := Nat.le_trans I2.ok.bsz I2.sz
  noex := fun b o e hb => by
    rcases (f2 b hb).2.2.2.1 with z | z
    · exact I2.ok.noex b o e z
    · exact absurd (Nat.lt_of_lt_of_le (Heap.lt_size e) (Nat.le_trans I2.ok.bsz z)) (Nat.lt_irrefl _)
  exfs := fun b hb z => (List.mem_cons.mp (I2.stkSub b z)).elim (f2 b hb).2.1 (f2 b hb).2.2.1
  funs := I2.stack
  frf := I2.stkFree

theorem comp_start {H2 : Hp} {s2 : Shared} {fp : List Addr} {scope : Scope} {own : List Str} {caps : List (Nat × Str)} {cl : List (Str × Addr)} {D C : Addr} {h1 : Heap} {tk : Nat} {m : Str → Option Value}
    (I2 : Inv X pins σ H2 s2) (f2 : ∀ b ∈ fp, FpOk X pins H2 b) (hC : @Eq Nat C (s2.heap.objs.size + 1)) (hD : @Eq Nat D s2.heap.objs.size)
    (hfs : ∀ b ∈ fp, b < s2.heap.objs.size) (hkind : scope.kind = .function) (hcl : ∀ x c, cl.lookup x = some c → X.env.cells.lookup x = some c)
    (hhas : ∀ x, ((relabel scope X.env).names.lookup x = some .cell ∨ (relabel scope X.env).names.lookup x = some .free) → ∃ c, cl.lookup x = some c)
    (hcap : CapsOk X scope caps) (hns : h1.Ns C m) (old : ∀ b o, s2.heap.get? b = some o → h1.get? b = some o) (hlst : ∃ n, h1.get? D = some { cls := .type "list", data := .seq #[] n }) :
    Inv (cxComp X scope (own ++ caps.map (·.2)) cl C s2 H2 fp (X.pn ++ pins)) [] (capSt own caps σ) (upd H2 D (.lst [])) { s2 with heap := h1, toks := tk } := by
  have hCs : s2.heap.objs.size < C := by omega
  have hDn : H2 D = none := I2.hok.fresh (by omega)
  have hCn : H2 C = none := I2.hok.fresh (by omega)
  have hCD : C ≠ D := by show ¬ @Eq Nat C D; omega
  have hDs : s2.heap.objs.size ≤ D := by show @LE.le Nat _ s2.heap.objs.size D; omega
  have new : ObjOk X.prog X.w (upd H2 D (.lst [])) h1 D (.lst []) := let ⟨n, e⟩ := hlst; ⟨Nat.zero_le _, [], n, .nil, e⟩
  refine ⟨comp_ok I2 f2 hCs hfs hkind hcl hhas, rfl, I2.bare, Un.laid old hDs hDn, ⟨m, hns, fun i x v e1 e2 e3 => ?_⟩, fun x c e => ?_, ?_, fun x c e => ?_, fun p hp => ?_, I2.hok.laid old hDs new, ?_⟩
  · -- a captured name
    have e2' : (capSt own caps σ)[i]? = some (some v) := e2
    unfold capSt at e2'
    by_cases hi : i < own.length
    · rw [List.getElem?_append_left (by simpa using hi), List.getElem?_map] at e2'
      cases q : own[i]? with
      | none => rw [q] at e2'; cases e2'
      | some y => rw [q] at e2'; cases e2'
    · have hle : own.length ≤ i := Nat.le_of_not_lt hi
      rw [List.getElem?_append_right (by simpa using hle), List.getElem?_map, List.length_map] at e2'
      have e1' : (own ++ caps.map (·.2))[i]? = some x := e1
      rw [List.getElem?_append_right hle, List.getElem?_map] at e1'
      cases q : caps[i - own.length]? with
      | none => rw [q] at e2'; cases e2'
      | some p =>
        rw [q] at e2' e1'
        have ex : p.2 = x := Option.some.inj e1'
        have ev : (σ[p.1]?).join = some v := Option.some.inj e2'
        obtain ⟨hN, hf, hv⟩ := hcap.get q
        have hσ : σ[p.1]? = some (some v) := by
          cases r : σ[p.1]? with
          | none => rw [r] at ev; cases ev
          | some y => rw [r] at ev; rw [show y = some v from ev]
        obtain ⟨mX, _, hl⟩ := I2.loc
        obtain ⟨u, ru, lk⟩ := hl p.1 p.2 v hN hσ (.inr hv)
        subst ex
        refine ⟨u, ru, .inr ⟨lk_relabel_free hf, ?_⟩⟩
        rcases lk with ⟨k, _⟩ | ⟨_, c, e, z⟩
        · have k' : X.env.scope.names.lookup p.2 = some .local := k
          rw [k'] at hv
          rcases hv with z | z <;> cases z
        · obtain ⟨c', e'⟩ := hhas p.2 (lk_relabel_free hf)
          have e2 := hcl p.2 c' e'
          rw [e] at e2
          cases e2
          obtain ⟨o, ho, hd⟩ := z
          exact ⟨c, e', o, old c o ho, hd⟩
  · obtain ⟨v, o, ho, hd⟩ := I2.cell x c (hcl x c e)
    exact ⟨v, o, old c o ho, hd⟩
  · show upd H2 D (.lst []) C = none
    rw [upd_ne hCD]; exact hCn
  · obtain ⟨v, q⟩ := I2.cell x c (hcl x c e)
    rw [upd_ne (Nat.ne_of_lt (Nat.lt_of_lt_of_le q.lt hDs))]
    exact I2.freeC x c (hcl x c e)
  · have hp' : p ∈ X.pn ++ pins := by
      have hp2 : p ∈ (X.pn ++ pins) ++ [] := hp
      rwa [List.append_nil] at hp2
    obtain ⟨e, n, ne, nf, d⟩ := I2.pin p hp'
    have lt := Heap.lt_size e
    refine ⟨old p.1 p.2 e, by rw [upd_ne (Nat.ne_of_lt (Nat.lt_of_lt_of_le lt hDs))]; exact n, ?_, fun z => (List.mem_cons.mp (I2.stkSub p.1 z)).elim ne nf, d⟩
    exact Nat.ne_of_lt (Nat.lt_trans lt hCs)
  · show (capSt own caps σ).length = (own ++ caps.map (·.2)).length
    unfold capSt
    simp

/-- back from the block -/
theorem comp_back {H2 H' : Hp} {s2 s' : Shared} {fp : List Addr} {scope : Scope} {N : List Str} {cl : List (Str × Addr)} {C : Addr} {σ' : St} {pn : List (Addr × Obj)} (I2 : Inv X pins σ H2 s2) (f2 : ∀ b ∈ fp, FpOk X pins H2 b)
    (J : Inv (cxComp X scope N cl C s2 H2 fp pn) [] σ' H' s') : Inv X pins σ H' s' :=
  I2.call' (s' := s') (ch := fp) J.os J.base J.hok J.bare fun b hb => ⟨(f2 b hb).2.2.2.1, (f2 b hb).2.1, (f2 b hb).2.2.2.2.1, (f2 b hb).2.2.2.2.2⟩
/-- the block's names go -/
theorem Inv.gone {H : Hp} {s : Shared} {C : Addr} {h' : Heap} (I : Inv X pins σ H s) (hs : Heap.SameBut C s.heap h') (hn : H C = none) (h0 : X.s₀.heap.objs.size ≤ C) (hL : C ≠ X.env.locals) (h2 : ∀ x c, X.env.cells.lookup x = some c → c ≠ C) (h3 : ∀ p ∈ X.pn ++ pins, p.1 ≠ C) :
    Inv X pins σ H { s with heap := h' } := I.turned (t' := s.toks) (fun b o hb e => (hs.2 b hb).trans e) hn hL (.inr h0) h2 h3
end

theorem free_of_relabel {env : Env} {scope : Scope} {x : Str} (hcell : ∀ y ∈ scope.names, y.2 ≠ .cell) (h : (relabel scope env).names.lookup x = some .cell ∨ (relabel scope env).names.lookup x = some .free) : (x, NameKind.free) ∈ scope.names := by
  have all : ∀ k, (relabel scope env).names.lookup x = some k → (k = .cell ∨ k = .free) → (x, NameKind.free) ∈ scope.names := by
    intro k e hk
    have m := mem_of_lk e
    obtain ⟨⟨n, j⟩, hm, q⟩ := List.mem_map.mp (show (x, k) ∈ scope.names.map _ from m)
    dsimp only at q
    by_cases c : (j == NameKind.free && env.scope.kind == .function && env.kindOf n == some .cell) = true
    · rw [if_pos c] at q
      injection q with q1 q2
      subst q1
      have jf : j = .free := by
        simp only [Bool.and_eq_true] at c
        exact eq_of_beq c.1.1
      rw [← jf]; exact hm
    · rw [if_neg c] at q
      injection q with q1 q2
      subst q1 q2
      rcases hk with z | z
      · exact absurd z (hcell _ hm)
      · rw [z] at hm; exact hm
  rcases h with h | h
  · exact all _ h (.inl rfl)
  · exact all _ h (.inr rfl)

/-! ## What a comprehension walks, for the contexts that Z lets through (calm ones; or ones that handle an exception) -/
structure Steps (Y : Cx) (tg : Expr) (J : It) (fp : List Addr) (it : Addr) (tn : Nat → Heap → Prop) : Prop where
  item : ∀ (i : Nat) (pins : List (Addr × Obj)) (s : Shared) (σ : St) (H : Hp) (E : Value → Shared → Prop), Inv Y pins σ H s → (∀ b ∈ fp, FpOk Y pins H b) → tn i s.heap → J.go i H →
    wpAny (model Y.prog Y.w) Y.A (pyNext (.ref it)) (fun r s1 => ∃ u, r = some u ∧
      wpAny (model Y.prog Y.w) Y.A (letOwnedTupleGo tg (.ref it) u) (fun _ s2 => ∃ x H', Inv Y pins σ H' s2 ∧ RelV x u ∧ J.yld i H x H' ∧ tn (i + 1) s2.heap ∧ ∀ b ∈ fp, H' b = none) E s1) E s
  done : ∀ (i : Nat) (pins : List (Addr × Obj)) (s : Shared) (σ : St) (H : Hp) (E : Value → Shared → Prop), Inv Y pins σ H s → (∀ b ∈ fp, FpOk Y pins H b) → tn i s.heap → J.stop i H →
    wpAny (model Y.prog Y.w) Y.A (pyNext (.ref it)) (fun r s1 => r = none ∧ Inv Y pins σ H s1) E s
structure Trn (P : Program) (w : World) (K : PySem.W.Frag) (Z : Cx → Prop) (tg : Expr) (J : It) (fp : List Addr) (it : Addr) (tn : Nat → Heap → Prop) : Prop where
  obj : ∀ i h, tn i h → ∀ b ∈ fp, ∃ o, h.get? b = some o ∧ ∀ v, o.data ≠ .cell v
  keep : ∀ i h h', tn i h → (∀ b ∈ fp, ∀ o, h.get? b = some o → h'.get? b = some o) → tn i h'
  steps : ∀ Y : Cx, Y.prog = P → Y.w = w → Y.K = K → Z Y → Steps Y tg J fp it tn
  self : ∀ (A : Around) (i : Nat) (s : Shared) (Q : Value → Shared → Prop) (E : Value → Shared → Prop), tn i s.heap → Q (.ref it) s → wpAny (model P w) A (pyIter (.ref it)) Q E s
def PIEq (Z : Cx → Prop) (X : Cx) (pins : List (Addr × Obj)) (σ : St) (tg : Expr) (R : It → Hp → Prop) (itv : Value) (s2 : Shared) : Prop :=
  ∃ (it : Addr) (fp : List Addr) (tn : Nat → Heap → Prop) (J : It) (H' : Hp), itv = .ref it ∧ Inv X pins σ H' s2 ∧ Trn X.prog X.w X.K Z tg J fp it tn ∧ tn 0 s2.heap ∧ (∀ b ∈ fp, FpOk X pins H' b) ∧ R J H'
def PIq (Z : Cx → Prop) (X : Cx) (tg iter : Expr) (wi : TI) : Prop :=
  ∀ (pins : List (Addr × Obj)) (s : Shared) (σ : St) (H : Hp) (R : It → Hp → Prop), Inv X pins σ H s → wi σ H R →
    wpAny (model X.prog X.w) X.A (eval iter X.env) (fun v s1 => wpAny (model X.prog X.w) X.A (pyIter v) (PIEq Z X pins σ tg R) X.xe s1) X.xe s
theorem PI.q {X : Cx} {tg iter : Expr} {wi : TI} (h : PI X tg iter wi) : PIq (fun Y => Y.calm = true) X tg iter wi := fun pins s σ H R I q =>
  thn (h pins s σ H R I q) fun v s1 h1 => thn h1 fun itv s2 h2 => by
    obtain ⟨it, fp, tn, J, H', e, I', T, t0, f, r⟩ := h2
    exact ⟨it, fp, tn, J, H', e, I', ⟨T.obj, T.keep, fun Y hP hw hK hz => ⟨fun i pins s σ H E => hP ▸ hw ▸ T.item Y hP hw hK hz i pins s σ H E, fun i pins s σ H E => hP ▸ hw ▸ T.done Y hP hw hK hz i pins s σ H E⟩, T.self⟩, t0, f, r⟩

section
variable {X : Cx} {elt target iter : Expr} {ifs : List Expr} {scope : Scope} {pos : Pos} {own : List Str} {caps : List (Nat × Str)} {wi : TI} {g : TG} {tf : TT} {te : TE}
/-- what a comprehension's scope must be: no cells of its own, its locals there, what is free is a cell without -/
structure CompScope (X : Cx) (scope : Scope) (caps : List (Nat × Str)) : Prop where
  kind : scope.kind = .function
  cell : (scope.names.all fun y => !(y.2 == .cell)) = true
  names : (scope.names.all fun y => !(y.2 == .local) || scope.names.lookup y.1 == some .local) = true
  free : (scope.names.all fun y => !(y.2 == .free) || (X.env.scope.names.lookup y.1 == some .cell || X.env.scope.names.lookup y.1 == some .free)) = true
  caps : CapsOk X scope caps
theorem comp_core {use : Option (Value → Sem Unit)} {R : Value → Shared → Prop} {pins : List (Addr × Obj)} {σ : St} {s : Shared} {H : Hp} {Q : VK} (Z : Cx → Prop) (hc : ∀ cl C s H fp pins, Z (cxComp X scope (own ++ caps.map (·.2)) cl C s H fp (X.pn ++ pins))) (S : CompScope X scope caps) (hi : PIq Z X target iter wi)
    (hg : ∀ cl C s H fp pn, PG (cxComp X scope (own ++ caps.map (·.2)) cl C s H fp pn) target g)
    (ht : ∀ cl C s H fp pn, PTs (cxComp X scope (own ++ caps.map (·.2)) cl C s H fp pn) ifs tf)
    (he : ∀ cl C s H fp pn, PE (cxComp X scope (own ++ caps.map (·.2)) cl C s H fp pn) elt te)
    (I : Inv X pins σ H s) (h : tComp wi own caps g tf te σ H Q)
    (fin : ∀ D C H' s' m, Inv X pins σ H' s' → s'.heap.Ns C m → H' C = none → X.s₀.heap.objs.size ≤ C → C ≠ X.env.locals → (∀ x c, X.env.cells.lookup x = some c → c ≠ C) → (∀ p ∈ X.pn ++ pins, p.1 ≠ C) → Q (.ref D) H' →
      compPost (model X.prog X.w) X.A X.xe use R (.ref D) C (.ok .next) s')
    (hs : ∀ x, foldedSetIterable iter X.env x = pure x) :
    wpAny (model X.prog X.w) X.A (comprehension (.ListComp elt [⟨target, iter, ifs, 0⟩] scope pos) scope X.env (firstIterPos [⟨target, iter, ifs, 0⟩] pos) (newList []) false (eval iter X.env) use) R X.xe s := by
  have hcell : ∀ y ∈ scope.names, y.2 ≠ .cell := fun y hy z => by
    have := List.all_eq_true.mp S.cell y hy
    rw [z] at this; cases this
  have hnames : ∀ y ∈ scope.names, y.2 = .local → scope.names.lookup y.1 = some .local := fun y hy z => by
    have := List.all_eq_true.mp S.names y hy
    rw [z] at this
    simpa using this
  have hfree : ∀ y ∈ scope.names, y.2 = .free → X.env.scope.names.lookup y.1 = some .cell ∨ X.env.scope.names.lookup y.1 = some .free := fun y hy z => by
    have := List.all_eq_true.mp S.free y hy
    rw [z] at this
    simpa using this
  obtain ⟨cl, hclos, hcl0, hcl1⟩ := closure_ok (env := X.env) (scope := scope) fun y hy z => I.ok.has y.1 (hfree y hy z)
  have hcl : ∀ x c, cl.lookup x = some c → X.env.cells.lookup x = some c := fun x c e => (hcl0 x c (mem_of_lk e)).2
  have hhas : ∀ x, ((relabel scope X.env).names.lookup x = some .cell ∨ (relabel scope X.env).names.lookup x = some .free) → ∃ c, cl.lookup x = some c := fun x hx => by
    obtain ⟨c, hm⟩ := hcl1 x (free_of_relabel hcell hx)
    exact lk_of_mem hm
  refine wpAny_comprehension_free (g := ⟨target, iter, ifs, 0⟩) (gs := []) rfl hs hclos S.kind hnames (thn (hi pins s σ H _ I h) fun v s1 h1 => thn h1 fun itv s2 h2 => ?_)
  obtain ⟨it, fp, tn, J, H2, e, I2, T, st2, f2, cont⟩ := h2
  subst e
  obtain ⟨W, ⟨m0, w0⟩, turn⟩ := cont s2.heap.objs.size (I2.hok.fresh (Nat.le_refl _))
  refine wpAny_newObj_type (wpAny_newFunctionEnv hcell (by intro y hy; simp at hy) (fun h₁ hns₁ hsb₁ => ?_) S.kind)
  dsimp only at hns₁ hsb₁ ⊢
  generalize hH2 : s2.heap.push { cls := .type "list", dict := none, data := .seq ([] : List Value).toArray } = HL at hns₁ hsb₁ ⊢
  have hC : HL.objs.size = s2.heap.objs.size + 1 := by rw [← hH2, Heap.size_push]
  have hfs : ∀ b ∈ fp, b < s2.heap.objs.size := fun b hb => let ⟨_, e, _⟩ := T.obj 0 _ st2 b hb; Heap.lt_size e
  have old : ∀ b o, s2.heap.get? b = some o → h₁.get? b = some o := fun b o e =>
    hsb₁.extBut b o (by rw [hC]; exact Nat.ne_of_lt (Nat.lt_succ_of_lt (Heap.lt_size e))) (Heap.get?_push_of_some _ (hH2 ▸ Heap.get?_push_of_some _ e))
  have hlst : ∃ n, h₁.get? s2.heap.objs.size = some { cls := .type "list", data := .seq #[] n } := ⟨_, hsb₁.extBut _ _ (by rw [hC]; exact Nat.ne_of_lt (Nat.lt_succ_self _)) (Heap.get?_push_of_some _ (hH2 ▸ Heap.get?_push_size _ rfl))⟩
  have I4 : Inv (cxComp X scope (own ++ caps.map (·.2)) cl HL.objs.size s2 H2 fp (X.pn ++ pins)) [] (capSt own caps σ) (upd H2 s2.heap.objs.size (.lst [])) { s2 with heap := h₁, toks := s2.toks + ([] : List (Str × Value)).length } :=
    comp_start I2 f2 hC rfl hfs S.kind hcl hhas S.caps hns₁ old hlst
  have st4 : tn 0 h₁ := T.keep 0 _ _ st2 fun b hb o e => old b o e
  have fr4 : ∀ b ∈ fp, upd H2 s2.heap.objs.size (.lst []) b = none := fun b hb => by
    rw [upd_ne (Nat.ne_of_lt (hfs b hb))]; exact (f2 b hb).1
  have hCs : s2.heap.objs.size < HL.objs.size := by rw [hC]; exact Nat.lt_succ_self _
  have loop : codeAny (model X.prog X.w) X.A (.compLoop (.ListComp elt [⟨target, iter, ifs, 0⟩] scope pos) 0 (.ref it) (.ref s2.heap.objs.size) (compEnvC scope cl HL.objs.size X.env))
      (compPost (model X.prog X.w) X.A X.xe use R (.ref s2.heap.objs.size) HL.objs.size) { s2 with heap := h₁, toks := s2.toks + ([] : List (Str × Value)).length } := by
    refine comp_loop (fun n s' => ∃ i σ' H', Inv (cxComp X scope (own ++ caps.map (·.2)) cl HL.objs.size s2 H2 fp (X.pn ++ pins)) [] σ' H' s' ∧ tn i s'.heap ∧ (∀ b ∈ fp, H' b = none) ∧ W i n σ' H') ?_ m0 ⟨0, _, _, I4, st4, fr4, w0⟩
    have U := T.steps (cxComp X scope (own ++ caps.map (·.2)) cl HL.objs.size s2 H2 fp (X.pn ++ pins)) rfl rfl rfl (hc _ _ _ _ _ _)
    rintro n s3 ⟨i, σ3, H3, I3, st3, fr3, w3⟩
    have stat : ∀ {H' : Hp}, (∀ b ∈ fp, H' b = none) → ∀ b ∈ fp, FpOk (cxComp X scope (own ++ caps.map (·.2)) cl HL.objs.size s2 H2 fp (X.pn ++ pins)) [] H' b := fun {H'} hn b hb => by
      refine ⟨hn b hb, (I3.ok.exf b hb).1, I3.ok.exfs b hb, .inl hb, (I3.ok.exf b hb).2, fun p hp => ?_⟩
      have hp' : p ∈ X.pn ++ pins := by
        have hp2 : p ∈ (X.pn ++ pins) ++ [] := hp
        rwa [List.append_nil] at hp2
      exact (f2 b hb).2.2.2.2.2 p hp'
    rcases turn i n σ3 H3 w3 with ⟨stop, qn⟩ | ⟨go, step⟩
    · refine thn (U.done i [] s3 σ3 H3 _ I3 (stat fr3) st3 stop) fun r s4 ⟨hr, I4⟩ => ?_
      subst hr
      obtain ⟨m, hm, _⟩ := I4.loc
      refine fin s2.heap.objs.size HL.objs.size H3 s4 m (comp_back I2 f2 I4) hm I4.free (Nat.le_trans I2.sz (Nat.le_of_lt hCs)) (Nat.ne_of_gt (Nat.lt_trans I2.lt hCs)) (fun x c e z => ?_) (fun p hp z => ?_) qn
      · obtain ⟨v, q⟩ := I2.cell x c e
        exact absurd (Nat.lt_trans q.lt hCs) (by rw [z]; exact Nat.lt_irrefl _)
      · exact absurd (Nat.lt_trans (Heap.lt_size (I2.pin p hp).1) hCs) (by rw [z]; exact Nat.lt_irrefl _)
    · refine thn (U.item i [] s3 σ3 H3 _ I3 (stat fr3) st3 go) fun r s4 ⟨u, hr, h4⟩ => ?_
      subst hr
      refine thn h4 fun _ s5 ⟨x, H5, I5, r5, y5, st5, fr5⟩ => ?_
      have I5' := I5.pinned (stat fr5) (T.obj _ _ st5)
      refine thn (hg cl HL.objs.size s2 H2 fp (X.pn ++ pins) _ s5 σ3 H5 x u _ I5' r5 (step x H5 y5)) fun _ s6 ⟨σ6, H6, I6, q6⟩ => ?_
      refine thn (ht cl HL.objs.size s2 H2 fp (X.pn ++ pins) _ s6 σ6 H6 _ I6 q6) fun b s7 ⟨H7, I7, q7⟩ => ?_
      have again : ∀ {σ8 : St} {H8 : Hp} {s8 : Shared} {m' : Nat}, Inv (cxComp X scope (own ++ caps.map (·.2)) cl HL.objs.size s2 H2 fp (X.pn ++ pins)) ([] ++ pinsAt fp s5.heap) σ8 H8 s8 → m' < n → W (i + 1) m' σ8 H8 →
          ∃ m, m < n ∧ ∃ i σ' H', Inv (cxComp X scope (own ++ caps.map (·.2)) cl HL.objs.size s2 H2 fp (X.pn ++ pins)) [] σ' H' s8 ∧ tn i s8.heap ∧ (∀ b ∈ fp, H' b = none) ∧ W i m σ' H' := fun {σ8 H8 s8 m'} I8 hm w8 => by
        refine ⟨m', hm, i + 1, σ8, H8, I8.unpinned, T.keep _ _ _ st5 fun b hb o e => (I8.pin (b, o) (List.mem_append_right _ (List.mem_append_right _ (mem_pinsAt hb e)))).1, fun b hb => ?_, w8⟩
        obtain ⟨o, e, d⟩ := T.obj _ _ st5 b hb
        exact (I8.pin (b, o) (List.mem_append_right _ (List.mem_append_right _ (mem_pinsAt hb e)))).2.1
      cases b with
      | false =>
        rw [if_neg Bool.false_ne_true] at q7 ⊢
        obtain ⟨m', hm, w7⟩ := q7
        exact again I7 hm w7
      | true =>
        rw [if_pos rfl] at q7 ⊢
        refine thn (he cl HL.objs.size s2 H2 fp (X.pn ++ pins) _ s7 σ6 H7 _ I7 q7) fun y s8 ⟨v, H8, I8, r8, ys, hy, hz, m', hm, w8⟩ => ?_
        refine thn (mt_append _ s8 σ6 H8 (.ref s2.heap.objs.size) [v] (.ref s2.heap.objs.size) [y] (fun _ H9 => H9 = upd H8 s2.heap.objs.size (.lst (ys ++ [v]))) I8 rfl (.cons r8 .nil) ⟨_, ys, v, rfl, rfl, hy, hz, rfl⟩) fun z s9 ⟨_, H9, I9, _, e9⟩ => ?_
        subst e9
        exact again I9 hm w8
  exact codeAny_compStart_list loop (T.self _ 0 _ _ _ st4 loop)
/-- [elt for target in iter if ..] -/
theorem pe_comp (hc : X.calm = true) (S : CompScope X scope caps) (hi : PI X target iter wi)
    (hg : ∀ cl C s H fp pn, PG (cxComp X scope (own ++ caps.map (·.2)) cl C s H fp pn) target g)
    (ht : ∀ cl C s H fp pn, PTs (cxComp X scope (own ++ caps.map (·.2)) cl C s H fp pn) ifs tf)
    (he : ∀ cl C s H fp pn, PE (cxComp X scope (own ++ caps.map (·.2)) cl C s H fp pn) elt te)
    (hs : ∀ x, foldedSetIterable iter X.env x = pure x := by intro _; rfl) : PE X (.ListComp elt [⟨target, iter, ifs, 0⟩] scope pos) (tComp wi own caps g tf te) := by
  intro pins s σ H Q I h
  rw [eval_ListComp]
  refine comp_core (Q := Q) (fun Y => Y.calm = true) (fun _ _ _ _ _ _ => hc) S hi.q hg ht he I h (fun D C H' s' m I' hm hn h0 hL h2 h3 q => ?_) hs
  exact ⟨m, hm, fun h' hs' => ⟨.ref D, H', I'.gone hs' hn h0 hL h2 h3, rfl, q⟩⟩
theorem pe_compq (Z : Cx → Prop) (hc : ∀ cl C s H fp pins, Z (cxComp X scope (own ++ caps.map (·.2)) cl C s H fp (X.pn ++ pins))) (S : CompScope X scope caps) (hi : PIq Z X target iter wi)
    (hg : ∀ cl C s H fp pn, PG (cxComp X scope (own ++ caps.map (·.2)) cl C s H fp pn) target g)
    (ht : ∀ cl C s H fp pn, PTs (cxComp X scope (own ++ caps.map (·.2)) cl C s H fp pn) ifs tf)
    (he : ∀ cl C s H fp pn, PE (cxComp X scope (own ++ caps.map (·.2)) cl C s H fp pn) elt te)
    (hs : ∀ x, foldedSetIterable iter X.env x = pure x := by intro _; rfl) : PE X (.ListComp elt [⟨target, iter, ifs, 0⟩] scope pos) (tComp wi own caps g tf te) := by
  intro pins s σ H Q I h
  rw [eval_ListComp]
  refine comp_core (Q := Q) Z hc S hi hg ht he I h (fun D C H' s' m I' hm hn h0 hL h2 h3 q => ?_) hs
  exact ⟨m, hm, fun h' hs' => ⟨.ref D, H', I'.gone hs' hn h0 hL h2 h3, rfl, q⟩⟩
/-- name = [elt for target in iter if ..], stored ahead of the block's end -/
theorem ps_setC {i : Nat} {x : Str} {pos' spos : Pos} (hN : X.N.Nodup) (hn : X.N[i]? = some x) (hx : Loc X.env.scope x) (hc : X.calm = true) (S : CompScope X scope caps) (hi : PI X target iter wi)
    (hg : ∀ cl C s H fp pn, PG (cxComp X scope (own ++ caps.map (·.2)) cl C s H fp pn) target g)
    (ht : ∀ cl C s H fp pn, PTs (cxComp X scope (own ++ caps.map (·.2)) cl C s H fp pn) ifs tf)
    (he : ∀ cl C s H fp pn, PE (cxComp X scope (own ++ caps.map (·.2)) cl C s H fp pn) elt te)
    (hsw : swapsWith (.ListComp elt [⟨target, iter, ifs, 0⟩] scope pos) (some (.Name x pos')) spos.line X.env = pure true := by rfl)
    (hf : X.fn x = true ∨ X.env.scope.names.lookup x = some .local := by first | exact .inl rfl | exact .inr rfl | assumption)
    (hs : ∀ x, foldedSetIterable iter X.env x = pure x := by intro _; rfl) : PS X (.Assign [.Name x pos'] (.ListComp elt [⟨target, iter, ifs, 0⟩] scope pos) spos) (tAsg (tComp wi own caps g tf te) (gName i)) := by
  intro pins s σ H D I h
  rw [exec_Assign_Name_used _ _ _ _ hsw]
  refine wpAny_bind (wpAny_standAt (wpAny_bind ?_))
  show wpAny _ _ (do let _ ← comprehension (.ListComp elt [⟨target, iter, ifs, 0⟩] scope pos) scope X.env _ (newList []) false (eval iter X.env) (some (assign (.Name x pos') X.env))) _ _ s
  refine wpAny_bind (wpAny_mono (comp_core (use := some (assign (.Name x pos') X.env)) (R := fun _ s' => SP X pins D .next s') (Q := fun v H1 => gName i v σ H1 D.nx) (fun Y => Y.calm = true) (fun _ _ _ _ _ _ => hc) S hi.q hg ht he I h (fun Dl C H' s' m I' hm hnC h0 hL h2 h3 q => ?_) hs)
    (fun _ s' hq => wpAny_pure (wpAny_pure hq)) fun _ _ e => e)
  show wpAny _ _ (assign (.Name x pos') X.env (.ref Dl)) _ _ s'
  refine wpAny_assign_Name (store_ok2 I' hN hn hx (show RelV (.ref Dl) (.ref Dl) from rfl) (fun s'' I'' sb => ?_) hf)
  obtain ⟨a, hsb, ha⟩ := sb
  have hCa : C ≠ a := by
    rcases ha with z | z
    · rw [z]; exact hL
    · exact Ne.symm (h2 x a z)
  exact ⟨m, hm.sameBut hsb hCa, fun h' hs' => ⟨_, H', I''.gone hs' hnC h0 hL h2 h3, q⟩⟩
end
end L2

namespace L2
open PySem PySem.Spec PyProof.Rows

/-! ## The signs of a text, one after another -/
def sgn (c : Nat) : V := .str ⟨#[c]⟩
def Its (x : Str) : It := ⟨fun i _ => i < x.cps.size, fun i H v H' => H' = H ∧ ∃ c, x.cps[i]? = some c ∧ v = sgn c, fun i _ => i = x.cps.size⟩
theorem turn_str {P : Program} {w : World} {K : PySem.W.Frag} {tg : Expr} (it : Addr) (x : Str) (t : Tok) (ty : String)
    (hty : ["enumerate", "zip", "dict_itemiterator", "dict_reverseitemiterator", "odict_iterator", "itertools.zip_longest", "itertools.pairwise"].contains ty = false)
    (W : ∀ A : Around, A.handled = none → Walks P w A it [it] [it] x.cps.size (SignAt x) (fun i h => h.IsStrIter it ty x t i))
    (sf : ∀ (A : Around) (i : Nat) (s : Shared) (Q : Value → Shared → Prop) (E : Value → Shared → Prop), s.heap.IsStrIter it ty x t i → Q (.ref it) s → wpAny (model P w) A (pyIter (.ref it)) Q E s) :
    Turn P w K tg (Its x) [it] it (fun i h => h.IsStrIter it ty x t i) where
  mem := by simp
  obj := fun i h st b hb => by
    have e : b = it := by simpa using hb
    subst e
    obtain ⟨o, e, c, d⟩ := st
    exact ⟨o, e, fun v z => by rw [d] at z; cases z⟩
  keep := fun i h h' st k => by
    obtain ⟨o, e, r⟩ := st
    exact ⟨o, k it (by simp) o e, r⟩
  item := by
    intro X hP hw hK hc i pins s σ H E I hf st hg
    subst hP hw hK
    obtain ⟨f0, f1, f2, f3, f4, f5⟩ := hf it (by simp)
    refine (W X.A (I.ok.hd hc)).item i s _ _ hg st fun v h' tk hv st' kk => ?_
    obtain ⟨c, u, hc', rfl⟩ := hv
    have I1 : Inv X pins σ H { s with heap := h', toks := tk } := I.turned (fun b o hb e => kk b o (by simpa using hb) e) f0 f1 f3 f4 f5
    obtain ⟨o, e, cc, d⟩ := id st'
    exact ⟨_, rfl, go_of (s := { s with heap := h', toks := tk }) e cc d hty ⟨sgn c, H, I1, ⟨u, rfl⟩, ⟨rfl, c, hc', rfl⟩, st', fun b hb => (hf b hb).1⟩⟩
  done := by
    intro X hP hw hK hc i pins s σ H E I hf st hg
    subst hP hw hK
    obtain ⟨f0, f1, f2, f3, f4, f5⟩ := hf it (by simp)
    have hi : i = x.cps.size := hg
    subst hi
    exact (W X.A (I.ok.hd hc)).done s _ _ st fun h' tk kk => ⟨rfl, I.turned (fun b o hb e => kk b o (by simpa using hb) e) f0 f1 f3 f4 f5⟩
  self := fun A i s Q E st h => sf A i s Q E st h

section
variable {X : Cx} {tg : Expr}
def iStr (tl : TE) : TI := fun σ H R => tl σ H fun v H1 => ∃ x, v = .str x ∧ R (Its x) H1
theorem pi_str {l : Expr} {tl : TE} (hl : PE X l tl) : PI X tg l (iStr tl) := by
  intro pins s σ H R I h
  refine thn (hl pins s σ H _ I h) fun v s1 ⟨y, H1, I1, r1, q1⟩ => ?_
  obtain ⟨x, e, q⟩ := q1
  subst e
  obtain ⟨t, rfl⟩ := r1
  have hf : ∀ o : Obj, ∀ b ∈ [s1.heap.objs.size], FpOk X pins H1 b := fun o b hb => by
    have e : b = s1.heap.objs.size := by simpa using hb
    subst e
    exact I1.fpOk (Nat.le_refl _) (I1.hok.fresh (Nat.le_refl _))
  cases ha : x.cps.all (· < 128)
  · exact wpAny_pyIter_wide ha ⟨s1.heap.objs.size, [s1.heap.objs.size], _, _, H1, rfl, I1.kept (t' := s1.toks) fun b o e => Heap.get?_push_of_some _ e,
      turn_str _ x t "str_iterator" (by decide) (fun A hA => Walks.strWide hA _ x t) (fun A i s Q E st h => wpAny_pyIter_striter_wide st h), ⟨_, Heap.get?_push_size _ rfl, rfl, rfl⟩, hf default, q⟩
  · exact wpAny_pyIter_ascii ha ⟨s1.heap.objs.size, [s1.heap.objs.size], _, _, H1, rfl, I1.kept (t' := s1.toks) fun b o e => Heap.get?_push_of_some _ e,
      turn_str _ x t "str_ascii_iterator" (by decide) (fun A hA => Walks.strAscii hA _ x t) (fun A i s Q E st h => wpAny_pyIter_striter_ascii st h), ⟨_, Heap.get?_push_size _ rfl, rfl, rfl⟩, hf default, q⟩
end

/-! ## What an iterator gives, as a list -/
structure Gives (J : It) (Ok : Hp → Prop) (L : List V) : Prop where
  go : ∀ i H, Ok H → i < L.length → J.go i H
  yld : ∀ i H x H', Ok H → J.yld i H x H' → i < L.length → H' = H ∧ L[i]? = some x
  stop : ∀ H, Ok H → J.stop L.length H
theorem gives_range (lo : Int) (n : Nat) : Gives (Itr lo n) (fun _ => True) ((List.range n).map fun i => V.int (lo + (i : Nat))) where
  go := fun i H _ h => by
    have : i < n := by simpa using h
    exact this
  yld := fun i H x H' _ y h => by
    obtain ⟨e, rfl⟩ := y
    have : i < n := by simpa using h
    exact ⟨e, by simp [this]⟩
  stop := fun H _ => by
    show n ≤ _
    simp
theorem gives_str (x : Str) : Gives (Its x) (fun _ => True) (x.cps.toList.map sgn) where
  go := fun i H _ h => by
    have : i < x.cps.size := by simpa using h
    exact this
  yld := fun i H v H' _ y h => by
    obtain ⟨e, c, hc, rfl⟩ := y
    refine ⟨e, ?_⟩
    rw [List.getElem?_map]
    simp [hc]
  stop := fun H _ => by
    show _ = x.cps.size
    simp
theorem gives_list (K : PySem.W.Frag) (a : Addr) (xs : List V) : Gives (Itl K a) (fun H => SqL K H a xs) xs where
  go := fun i H q h => ⟨xs, xs[i], q, by simp [h]⟩
  yld := fun i H v H' q y h => ⟨y.1, y.2 xs q⟩
  stop := fun H q => ⟨xs, q, Nat.le_refl _⟩
/-- a for over what is given, by what holds ahead of each turn -/
theorem for_g {J : It} {Ok : Hp → Prop} {L : List V} {g : TG} {tb : TS} {D : Ends} {σ : St} {H : Hp} (G : Gives J Ok L) (Pv : Nat → St → Hp → Prop) (h0 : Pv 0 σ H) (hk : ∀ i σ H, i ≤ L.length → Pv i σ H → Ok H)
    (hs : ∀ i x σ H, L[i]? = some x → Pv i σ H → g x σ H fun σ2 H2 => tb { D with nx := Pv (i + 1), ct := Pv (i + 1), bk := D.nx } σ2 H2) (hd : ∀ σ H, Pv L.length σ H → D.nx σ H) :
    ∃ W : Nat → Nat → St → Hp → Prop, (∃ m, W 0 m σ H) ∧ ∀ i m σ H, W i m σ H →
      (J.stop i H ∧ D.nx σ H) ∨ (J.go i H ∧ ∃ N : St → Hp → Prop, (∀ σ' H', N σ' H' → ∃ m', m' < m ∧ W (i + 1) m' σ' H') ∧ ∀ x H', J.yld i H x H' → g x σ H' fun σ2 H2 => tb { D with nx := N, ct := N, bk := D.nx } σ2 H2) := by
  refine ⟨fun i m σ H => m = L.length - i ∧ i ≤ L.length ∧ Pv i σ H, ⟨L.length, by simp, Nat.zero_le _, h0⟩, ?_⟩
  rintro i m σ H ⟨rfl, hi, p⟩
  have q := hk i σ H hi p
  by_cases hlt : i < L.length
  · refine .inr ⟨G.go i H q hlt, Pv (i + 1), fun σ' H' p' => ⟨L.length - (i + 1), by omega, rfl, hlt, p'⟩, fun x H' y => ?_⟩
    obtain ⟨e, yy⟩ := G.yld i H x H' q y hlt
    subst e
    exact hs i x σ _ yy p
  · have e : i = L.length := by omega
    subst e
    exact .inl ⟨G.stop H q, hd σ H p⟩
/-- a comprehension over what is given: a turn that keeps, a turn that skips -/
def CNext (D : Addr) (L : List V) (Pv : Nat → List V → St → Hp → Prop) (i : Nat) (σ2 : St) (v : V) (H5 : Hp) : Prop :=
  ∃ ys, H5 D = some (.lst ys) ∧ ys.length < sizeLine ∧ ∃ m', m' < L.length - i ∧ (m' = L.length - (i + 1) ∧ i + 1 ≤ L.length ∧ ∃ xs, Pv (i + 1) xs σ2 (upd H5 D (.lst (ys ++ [v]))))
def CSkip (L : List V) (Pv : Nat → List V → St → Hp → Prop) (i : Nat) (σ2 : St) (H4 : Hp) : Prop :=
  ∃ m', m' < L.length - i ∧ (m' = L.length - (i + 1) ∧ i + 1 ≤ L.length ∧ ∃ xs, Pv (i + 1) xs σ2 H4)
theorem CNext.of {D : Addr} {L : List V} {Pv : Nat → List V → St → Hp → Prop} {i : Nat} {σ2 : St} {v : V} {H5 : Hp} {xs : List V} (hi : i < L.length) (hL : L.length ≤ sizeLine) (h5 : H5 D = some (.lst xs)) (hx : xs.length ≤ i) (p : Pv (i + 1) (xs ++ [v]) σ2 (upd H5 D (.lst (xs ++ [v])))) : CNext D L Pv i σ2 v H5 :=
  ⟨xs, h5, by omega, L.length - (i + 1), by omega, rfl, hi, _, p⟩
theorem CSkip.of {L : List V} {Pv : Nat → List V → St → Hp → Prop} {i : Nat} {σ2 : St} {H4 : Hp} {xs : List V} (hi : i < L.length) (p : Pv (i + 1) xs σ2 H4) : CSkip L Pv i σ2 H4 := ⟨L.length - (i + 1), by omega, rfl, hi, _, p⟩
theorem comp_g {J : It} {Ok : Hp → Prop} {L : List V} {g : TG} {tf : TT} {te : TE} {D : Addr} {σ0 : St} {H1 : Hp} {Q : VK} (G : Gives J Ok L) (Pv : Nat → List V → St → Hp → Prop) (h0 : Pv 0 [] σ0 (upd H1 D (.lst [])))
    (hk : ∀ i xs σ H, i ≤ L.length → Pv i xs σ H → Ok H)
    (hs : ∀ i x xs σ H, i < L.length → L[i]? = some x → Pv i xs σ H → g x σ H fun σ2 H3 => tf σ2 H3 fun b H4 => if b = true then te σ2 H4 fun v H5 => CNext D L Pv i σ2 v H5 else CSkip L Pv i σ2 H4)
    (hd : ∀ xs σ H, Pv L.length xs σ H → Q (.ref D) H) :
    CompW J D σ0 H1 g tf te Q := by
  refine ⟨fun i m σ H => m = L.length - i ∧ i ≤ L.length ∧ ∃ xs, Pv i xs σ H, ⟨L.length, by simp, Nat.zero_le _, [], h0⟩, ?_⟩
  rintro i m σ H ⟨rfl, hi, xs, p⟩
  have q := hk i xs σ H hi p
  by_cases hlt : i < L.length
  · refine .inr ⟨G.go i H q hlt, fun x H' y => ?_⟩
    obtain ⟨e, yy⟩ := G.yld i H x H' q y hlt
    subst e
    exact hs i x xs σ _ hlt yy p
  · have e : i = L.length := by omega
    subst e
    exact .inl ⟨G.stop H q, hd xs σ H p⟩

theorem Same.put {H0 H : Hp} {p : Addr} {o : HO} (s : Same H0 H) (n : H0 p = none) : Same H0 (upd H p o) := fun b u e => by
  rw [upd_ne (ne_of_none e n)]
  exact s b u e
theorem Same.new {H : Hp} {p : Addr} {o : HO} (n : H p = none) : Same H (upd H p o) := (Same.refl H).put n
theorem Same.tup {K : PySem.W.Frag} {H H' : Hp} {a : Addr} {xs : List V} (e : Same H H') (h : SqT K H a xs) : SqT K H' a xs := by
  rcases h with (h | ⟨o, h⟩) | h
  · exact .inl (.inl (e _ _ h))
  · exact .inl (.inr ⟨o, e _ _ h⟩)
  · exact .inr h
theorem take_snoc {α : Type} {l : List α} {i : Nat} {x : α} (h : l[i]? = some x) : l.take (i + 1) = l.take i ++ [x] := by
  rw [List.take_add_one, h]
  rfl
/-- a comprehension whose tests and elements are scalars that hang on the item alone; the heap may grow -/
theorem comp_s {J : It} {Ok : Hp → Prop} {L : List V} {tf : TT} {te : TE} {D : Addr} {σ0 capv : St} {H1 : Hp} {Q : VK} (hσ : σ0 = none :: capv) (G : Gives J Ok L) (hL : L.length ≤ sizeLine) (hD : H1 D = none) (hOk : ∀ H, Same H1 H → Ok H) (p : V → Bool) (F : V → V)
    (ht : ∀ x ∈ L, ∀ H R, Same H1 H → (∀ H', Same H H' → R (p x) H') → tf (some x :: capv) H R)
    (he : ∀ x ∈ L, p x = true → ∀ H R, Same H1 H → (∀ H', Same H H' → R (F x) H') → te (some x :: capv) H R)
    (hd : ∀ H, Same H1 H → H D = some (.lst ((L.filter p).map F)) → Q (.ref D) H) :
    CompW J D σ0 H1 (gName 0) tf te Q := by
  subst hσ
  refine comp_g G (fun i xs σ H => (∃ o, σ = o :: capv) ∧ Same H1 H ∧ H D = some (.lst xs) ∧ xs = ((L.take i).filter p).map F) ⟨⟨none, rfl⟩, Same.new hD, upd_same, by simp⟩ (fun i xs σ H _ h => hOk H h.2.1) ?_ ?_
  · rintro i x xs σ H hi hx ⟨⟨o, rfl⟩, s, e, exs⟩
    have hm : x ∈ L := List.mem_of_getElem? hx
    have hxl : xs.length ≤ i := by
      rw [exs, List.length_map]
      exact Nat.le_trans (List.length_filter_le _ _) (by rw [List.length_take]; omega)
    show tf (some x :: capv) H _
    refine ht x hm H _ s fun H' s' => ?_
    cases hp : p x with
    | true =>
      rw [if_pos rfl]
      refine he x hm hp H' _ (s.trans s') fun H'' s'' => ?_
      have e'' : H'' D = some (.lst xs) := s'' _ _ (s' _ _ e)
      refine CNext.of hi hL e'' hxl ⟨⟨some x, rfl⟩, ((s.trans s').trans s'').put hD, upd_same, ?_⟩
      rw [take_snoc hx, List.filter_append, List.map_append, exs]
      simp [hp]
    | false =>
      rw [if_neg Bool.false_ne_true]
      refine CSkip.of hi ⟨⟨some x, rfl⟩, s.trans s', s' _ _ e, ?_⟩
      rw [take_snoc hx, List.filter_append, List.map_append, exs]
      simp [hp]
  · rintro xs σ H ⟨_, s, e, exs⟩
    refine hd H s ?_
    rw [e, exs, List.take_length]
end L2

namespace L2
open PySem PySem.Spec PyProof.Rows

/-! ## Built-ins over a list or tuple: all, any, max, min, sum, set -/
/-- the walk over a list, behind which all that was there still stands -/
theorem walk_list {P : Program} {w : World} {A : Around} {E : Value → Shared → Prop} {s : Shared} {a : Addr} {its : List Value} {Q : Value → Shared → Prop} (hh : A.handled = none) (hl : s.heap.IsList a its.toArray)
    (h : ∀ (I : Addr) (s2 : Shared), s2 = { s with heap := s.heap.push { cls := .type "list_iterator", data := .fields #[.ref a, .int 0 0] } } → I = s.heap.objs.size →
      Walks P w A I [I, a] [I] its.length (fun i v => its[i]? = some v) (fun i h => h.IsListIter I a i ∧ h.IsList a its.toArray) → (s2.heap.IsListIter I a 0 ∧ s2.heap.IsList a its.toArray) → (∀ b ∈ [I, a], b < s2.heap.objs.size) →
      (∀ h' : Heap, (∀ b o, b ∉ [I] → s2.heap.get? b = some o → h'.get? b = some o) → ∀ b o, s.heap.get? b = some o → h'.get? b = some o) → Q (.ref I) s2) :
    wpAny (model P w) A (pyIter (.ref a)) Q E s := by
  have hlt : a < s.heap.objs.size := by obtain ⟨_, e, _⟩ := hl; exact Heap.lt_size e
  refine wpAny_pyIter_list hl (h _ _ rfl rfl ?_ ⟨⟨_, Heap.get?_push_size _ rfl, rfl, rfl⟩, hl.push _⟩ (fun b hb => ?_) (fun h' k b o e => k b o ?_ (Heap.get?_push_of_some _ e)))
  · have W := Walks.list (prog := P) (w := w) (A := A) hh s.heap.objs.size a (Nat.ne_of_lt hlt) its.toArray
    simpa using W
  · show b < (s.heap.push _).objs.size
    rw [Heap.size_push]
    rcases List.mem_cons.mp hb with rfl | hb
    · exact Nat.lt_succ_self _
    · have e : b = a := by simpa using hb
      subst e
      exact Nat.lt_succ_of_lt hlt
  · intro z
    have e2 : b = s.heap.objs.size := by simpa using z
    subst e2
    exact absurd (Heap.lt_size e) (Nat.lt_irrefl _)
theorem vals_get {xs : List V} {us : List Value} (r : Vals xs us) {i : Nat} {u : Value} (h : us[i]? = some u) : ∃ x, xs[i]? = some x ∧ RelV x u := by
  have hi : i < xs.length := by rw [r.length]; exact (List.getElem?_eq_some_iff.mp h).1
  obtain ⟨u', hu, ru⟩ := r.get (x := xs[i]) (i := i) (by simp [hi])
  rw [h] at hu
  cases hu
  exact ⟨_, by simp [hi], ru⟩
theorem range_all_map (bs : List Bool) : (List.range bs.length).all (fun i => bs.getD i false) = bs.all id := by
  rw [Bool.eq_iff_iff, List.all_eq_true, List.all_eq_true]
  constructor
  · intro h x hx
    obtain ⟨i, hi, e⟩ := List.mem_iff_getElem.mp hx
    have := h i (List.mem_range.mpr hi)
    simp only [List.getD_eq_getElem?_getD, hi, getElem?_pos, Option.getD_some, e] at this
    exact this
  · intro h i hi
    have hi' := List.mem_range.mp hi
    simp only [List.getD_eq_getElem?_getD, hi', getElem?_pos, Option.getD_some]
    exact h _ (List.getElem_mem hi')
section
variable {X : Cx}
theorem truth_bl {P : Program} {w : World} {A : Around} {bs : List Bool} {its : List Value} (r : Vals (bs.map V.bl) its) : TruthOf P w A (fun i v => its[i]? = some v) (fun i => bs.getD i false) := by
  intro i v s Q E hv q
  obtain ⟨x, hx, rx⟩ := vals_get r hv
  rw [List.getElem?_map] at hx
  cases e : bs[i]? with
  | none => rw [e] at hx; cases hx
  | some b =>
    rw [e] at hx
    cases hx
    cases (show v = Value.bool b from rx)
    refine wpAny_truthy_bool ?_
    have eb : bs.getD i false = b := by rw [List.getD_eq_getElem?_getD, e]; rfl
    rw [← eb]
    exact q
theorem call_all (hc : X.calm = true) : CallR X (.builtin "all") (fun xs H Q => ∃ (a : Addr) (bs : List Bool), xs = [V.ref a] ∧ SqL X.K H a (bs.map V.bl) ∧ Q (.bl (bs.all id)) H) := by
  intro pins s σ H xs us Q I r h
  obtain ⟨a, bs, rfl, hq, q⟩ := h
  obtain ⟨u, rfl, ru⟩ := vals1 r
  cases ru
  obtain ⟨its, rv, p, hz⟩ := I.list hq
  refine call_all_walk (walk_list (A := X.A.in1) (I.ok.hd hc) p.isList fun It s2 e2 eI W st hf old => ?_)
  have hl : bs.length = its.length := by have := rv.length; rwa [List.length_map] at this
  refine ⟨It, _, _, its.length, _, _, _, rfl, W, st, truth_bl rv, fun h' tk k => ?_⟩
  subst e2
  rw [← hl, range_all_map]
  exact ⟨.bl _, H, I.kept (t' := tk) (old h' k), rfl, q⟩
theorem ints_are : ∀ {ns : List Int} {its : List Value}, Vals (ns.map V.int) its → IntsAre its ns
  | [], _, r => by rw [List.map_nil] at r; cases r; exact .nil
  | n :: ns, _, r => by
    rw [List.map_cons] at r
    cases r with
    | cons h t =>
      obtain ⟨tk, e⟩ := (show ∃ t, _ = Value.int n t from h)
      subst e
      exact .cons n tk (ints_are t)
/-- set(xs): as many as there are numbers that differ -/
def many (ns : List Int) : Nat := (firstMet (fun i => ns.getD i 0) ns.length).length
theorem call_set1 (hc : X.calm = true) : CallR X (.type "set") (fun xs H Q => ∃ (a : Addr) (ns : List Int), xs = [V.ref a] ∧ SqL X.K H a (ns.map V.int) ∧ ns.length + 1 < scanBound ∧ ∀ p, H p = none → Q (.ref p) (upd H p (.set (fun k => (firstMet (fun i => ns.getD i 0) ns.length).any (· == k)) (many ns)))) := by
  intro pins s σ H xs us Q I r h
  obtain ⟨a, ns, rfl, hq, hb, q⟩ := h
  obtain ⟨u, rfl, ru⟩ := vals1 r
  cases ru
  obtain ⟨its, rv, p, hz⟩ := I.list hq
  have hl : ns.length = its.length := by have := rv.length; rwa [List.length_map] at this
  have hsz : its.toArray.size = ns.length := by rw [List.size_toArray, hl]
  refine call_set_list (items := its.toArray) (ns := ns) (I.ok.hd hc) p.isList (by simpa using ints_are rv) (by rw [hsz]; exact hb) fun h' tk hS k => ?_
  rw [hsz] at hS
  have I' : Inv X pins σ (upd H s.heap.objs.size (.set (fun k => (firstMet (fun i => ns.getD i 0) ns.length).any (· == k)) (many ns))) { s with heap := h', toks := tk } :=
    I.laid (fun b o e => k b o (Heap.lt_size e) e) (Nat.le_refl _) hS
  exact ⟨.ref _, _, I', rfl, q _ (I.hok.fresh (Nat.le_refl _))⟩
theorem call_lenS : CallR X (.builtin "len") (fun xs H Q => ∃ a S n, xs = [V.ref a] ∧ H a = some (.set S n) ∧ Q (.int n) H) := by
  intro pins s σ H xs us Q I r h
  obtain ⟨a, S, n, rfl, hq, q⟩ := h
  obtain ⟨u, rfl, ru⟩ := vals1 r
  cases ru
  obtain ⟨o, es, ep, t, h1, h2, h3, h4, h5, h6, h7, h8⟩ := (show s.heap.SetOf (intKind X.prog X.w) a S n from I.hok a _ hq)
  have hfit : (es.size : Int) < 2 ^ 63 := by
    have : (es.size : Int) < 4096 := by unfold scanBound at h6; omega
    exact Int.lt_of_lt_of_le this (by decide)
  exact call_len_set h1 h2 h3 h7 hfit ⟨.int n, H, I.tok _, ⟨_, by rw [h8]⟩, q⟩

/-! ## Texts compared; isinstance; slices of texts -/
theorem op_le_str : OpR X (compareOp .LtE) (fun x y H Q => ∃ i j, x = .str i ∧ y = .str j ∧ Q (.bl (!decide (j.cps.toList < i.cps.toList))) H) := by
  intro pins s σ H x y v u Q I rx ry h
  obtain ⟨i, j, rfl, rfl, q⟩ := h
  obtain ⟨t, rfl⟩ := rx
  obtain ⟨t', rfl⟩ := ry
  exact PySem.P.le_str (fin_bl I q rfl)
theorem call_isi {c : Value} {cv : V} (hcv : RelV cv c) (huniq : ∀ u, RelV cv u → u = c) : CallR X (.builtin "isinstance") (fun xs H Q => ∃ x t b, xs = [x, cv] ∧ TyOf X.K H x t ∧ PySem.W.kitOne X.K t c = some b ∧ Q (.bl b) H) := by
  intro pins s σ H xs us Q I r h
  obtain ⟨x, t, b, rfl, ty, e, q⟩ := h
  obtain ⟨u, u', rfl, ru, ru'⟩ := vals2 r
  have := huniq u' ru'
  subst this
  exact isinst_ok I ru ty e fun tk => ⟨.bl b, H, I.tok _, rfl, q⟩
theorem call_isT (T : String) : CallR X (.builtin "isinstance") (fun xs H Q => ∃ x t b, xs = [x, .ty T] ∧ TyOf X.K H x t ∧ PySem.W.kitOne X.K t (.type T) = some b ∧ Q (.bl b) H) := call_isi (c := .type T) (cv := .ty T) rfl fun _ h => h
end
end L2

namespace L2
open PySem PySem.Spec PyProof.Rows

/-! ## Short words -/
section
variable {X : Cx}
/-- a block cut behind its first statement by what holds there -/
def tCut (t u : TS) : TS := fun D σ H => ∃ M : St → Hp → Prop, t { D with nx := M } σ H ∧ ∀ σ' H', M σ' H' → u D σ' H'
theorem pss_cut {st : Stmt} {rest : List Stmt} {t u : TS} (h1 : PS X st t) (h2 : PSs X rest u) : PSs X (st :: rest) (tCut t u) := by
  intro pins s σ H D I h
  obtain ⟨M, h, hM⟩ := h
  refine wpAny_execs_cons (thn (h1 pins s σ H { D with nx := M } I h) fun f s1 q => ?_)
  cases f with
  | next =>
    obtain ⟨σ', H', I', q⟩ := q
    exact h2 pins s1 σ' H' D I' (hM σ' H' q)
  | ret v => exact q
  | brk => exact q
  | cont => exact q
theorem nd_comp {scope : Scope} {N : List Str} {cl : List (Str × Addr)} {C : Addr} {s : Shared} {H : Hp} {fp : List Addr} {pn : List (Addr × Obj)} (h : N.Nodup) : (cxComp X scope N cl C s H fp pn).N.Nodup := h
theorem pe_gint {x : Str} {i : Int} {pos : Pos} (hg : Gl X x) (hm : ∃ t, X.mg x = some (.int i t)) (hd : (x == ("__debug__" : Str)) = false := by decide) : PE X (.Name x pos) (tC (.int i)) := by
  obtain ⟨t, hm⟩ := hm
  exact pe_glob hg hm ⟨t, rfl⟩ hd
end
/-- a def of the top that keeps its promise -/
structure Callee (P : Program) (w : World) (K : PySem.W.Frag) (mg : Str → Option Value) (base : Heap) (x : Str) (k : Nat) (ps : List Str) (sp : Sp) : Prop where
  ex : ∃ f fd, FnOk P w K mg base CX0 k f fd ps sp ∧ mg x = some (.ref f) ∧ PySem.W.keepIn K (.ref f) = true ∧ Binds K fd ps [] ∧ ∃ o, K.lookup f = some o ∧ o.data = .func fd
/-- a def as the top has left it -/
structure DefAt (K : PySem.W.Frag) (mg : Str → Option Value) (x : Str) (st : Stmt) : Prop where
  ex : ∃ f fd, Fun K x x st f fd ∧ mg x = some (.ref f)
theorem def_mk {K : PySem.W.Frag} {mg : Str → Option Value} {h : Heap} {x : Str} {st : Stmt} {f : Addr} {oc : Value} {od an : Option Addr} {osl : Array (Option Value)} {kV doc pm cdv ct : Value} (X : K.In h) (G : h.Ns mainGlobals mg)
    (a : PySem.W.nsIn K mainGlobals x = some (some (.ref f)))
    (l : K.lookup f = some ⟨oc, od, .func (PySem.W.fnOf x x (defArgs st) (defBody st) (defScope st) .none kV doc pm an cdv ct), osl⟩)
    (c : PySem.W.codeIn K cdv x = true) (k : PySem.W.keepIn K (.ref f) = true) : DefAt K mg x st := ⟨f, _, fun_mk l c k, PySem.W.mg_of X G a⟩
theorem int_mk {K : PySem.W.Frag} {mg : Str → Option Value} {h : Heap} {x : Str} {i : Int} {t : Tok} (X : K.In h) (G : h.Ns mainGlobals mg) (a : PySem.W.nsIn K mainGlobals x = some (some (.int i t))) : ∃ t, mg x = some (.int i t) := ⟨t, PySem.W.mg_of X G a⟩
section
variable {P : Program} {w : World} {K : PySem.W.Frag} {mg : Str → Option Value} {base : Heap}
theorem DefAt.callee {x : Str} {st : Stmt} {N ps : List Str} {k : Nat} {sp : Sp} (D : DefAt K mg x st) (S : FnScope N ps (defScope st))
    (hb : ∀ (kV doc pm : Value) (an : Option Addr) (cdv ct : Value) (us : List Value), us.length = ps.length → bindArgs (PySem.W.fnOf x x (defArgs st) (defBody st) (defScope st) .none kV doc pm an cdv ct) ⟨us, []⟩ = pure (ps.zip us))
    (len : ∀ vs H Q E, sp vs H Q E → vs.length = ps.length)
    (hbody : ∀ (f : Addr) (cdv : Value) (A : Around) (outer : List Env) (s : Shared) (H : Hp) (vs : List V) (Q : VK) (E : XK), Room k (A.deeper (envOfC x (defScope st) s.heap.objs.size f cdv)) → sp vs H Q E →
      ∃ t, PSs (cxOf CX0 P w K mg base N x (defScope st) f cdv A outer s H E).nox (defBody st) t ∧ t { nx := fun _ H' => Q .non H', rt := Q } (start N vs) H) : Callee P w K mg base x (k + 1) ps sp := by
  obtain ⟨f, fd, F, m⟩ := D.ex
  obtain ⟨oc, od, kV, doc, pm, an, cdv, ct, osl, e, lk, hcd⟩ := id F.ex
  exact ⟨f, fd, F.ok S len (fun cdv A outer s H vs Q E hr h => hbody f cdv A outer s H vs Q E hr h), m, F.kp, F.binds hb, _, lk, rfl⟩
end
section
variable {X : Cx} {x : Str} {k : Nat} {ps : List Str} {sp : Sp} {p pos : Pos} {e : Expr} {es : List Expr} {t : TA}
/-- f(e, ..) of a def that keeps its promise -/
theorem pe_fn (C : Callee X.prog X.w X.K X.mg X.base x k ps sp) (hr : Room k X.A) (hg : Gl X x) (ha : PA X (e :: es) t) (hdb : (x == ("__debug__" : Str)) = false := by decide)
    (he : starEach (e :: es) X.env = (false, eval e X.env) :: starEach es X.env := by rfl) (hpl : (backTo pos (starEach es X.env)).any (·.1) = false := by rfl) : PE X (.Call (.Name x p) (e :: es) [] pos) (tCall sp [] E0 t) := by
  obtain ⟨f, fd, F, hm, hk, hb, _⟩ := C.ex
  exact pe_call F hr hg hm hk hb .nil pass0 ha hdb he hpl
end
/-- Python's own names, none of them given another meaning at the top -/
structure Bn (mg : Str → Option Value) : Prop where
  n_len : mg "len" = none
  n_all : mg "all" = none
  n_any : mg "any" = none
  n_max : mg "max" = none
  n_min : mg "min" = none
  n_sum : mg "sum" = none
  n_sorted : mg "sorted" = none
  n_isinstance : mg "isinstance" = none
  n_int : mg "int" = none
  n_bool : mg "bool" = none
  n_str : mg "str" = none
  n_list : mg "list" = none
  n_tuple : mg "tuple" = none
  n_dict : mg "dict" = none
  n_set : mg "set" = none
  n_range : mg "range" = none
  n_reversed : mg "reversed" = none
  n_repr : mg "repr" = none
  n_abs : mg "abs" = none
  n_enumerate : mg "enumerate" = none
  n_zip : mg "zip" = none
theorem bn_mk {K : PySem.W.Frag} {mg : Str → Option Value} {h : Heap} (X : K.In h) (G : h.Ns mainGlobals mg)
    (a_len : PySem.W.nsIn K mainGlobals "len" = some none)
    (a_all : PySem.W.nsIn K mainGlobals "all" = some none)
    (a_any : PySem.W.nsIn K mainGlobals "any" = some none)
    (a_max : PySem.W.nsIn K mainGlobals "max" = some none)
    (a_min : PySem.W.nsIn K mainGlobals "min" = some none)
    (a_sum : PySem.W.nsIn K mainGlobals "sum" = some none)
    (a_sorted : PySem.W.nsIn K mainGlobals "sorted" = some none)
    (a_isinstance : PySem.W.nsIn K mainGlobals "isinstance" = some none)
    (a_int : PySem.W.nsIn K mainGlobals "int" = some none)
    (a_bool : PySem.W.nsIn K mainGlobals "bool" = some none)
    (a_str : PySem.W.nsIn K mainGlobals "str" = some none)
    (a_list : PySem.W.nsIn K mainGlobals "list" = some none)
    (a_tuple : PySem.W.nsIn K mainGlobals "tuple" = some none)
    (a_dict : PySem.W.nsIn K mainGlobals "dict" = some none)
    (a_set : PySem.W.nsIn K mainGlobals "set" = some none)
    (a_range : PySem.W.nsIn K mainGlobals "range" = some none)
    (a_reversed : PySem.W.nsIn K mainGlobals "reversed" = some none)
    (a_repr : PySem.W.nsIn K mainGlobals "repr" = some none)
    (a_abs : PySem.W.nsIn K mainGlobals "abs" = some none)
    (a_enumerate : PySem.W.nsIn K mainGlobals "enumerate" = some none)
    (a_zip : PySem.W.nsIn K mainGlobals "zip" = some none)
    : Bn mg := ⟨PySem.W.mg_none_of X G a_len, PySem.W.mg_none_of X G a_all, PySem.W.mg_none_of X G a_any, PySem.W.mg_none_of X G a_max, PySem.W.mg_none_of X G a_min, PySem.W.mg_none_of X G a_sum, PySem.W.mg_none_of X G a_sorted, PySem.W.mg_none_of X G a_isinstance, PySem.W.mg_none_of X G a_int, PySem.W.mg_none_of X G a_bool, PySem.W.mg_none_of X G a_str, PySem.W.mg_none_of X G a_list, PySem.W.mg_none_of X G a_tuple, PySem.W.mg_none_of X G a_dict, PySem.W.mg_none_of X G a_set, PySem.W.mg_none_of X G a_range, PySem.W.mg_none_of X G a_reversed, PySem.W.mg_none_of X G a_repr, PySem.W.mg_none_of X G a_abs, PySem.W.mg_none_of X G a_enumerate, PySem.W.mg_none_of X G a_zip⟩
/-- the law's own def, for the head -/
theorem DefAt.entry {P : Program} {w : World} {K : PySem.W.Frag} {mg : Str → Option Value} {x p : Str} {st : Stmt} {k : Nat} {sp : Sp} {fa : Addr} (D : DefAt K mg x st) (hfa : mg x = some (.ref fa))
    (hb : ∀ (kV doc pm : Value) (an : Option Addr) (cdv ct v : Value), bindArgs (PySem.W.fnOf x x (defArgs st) (defBody st) (defScope st) .none kV doc pm an cdv ct) ⟨[v], []⟩ = pure [(p, v)])
    (C : ∀ base : Heap, Callee P w K mg base x k [p] sp) :
    ∃ fd : FuncData, (∀ (s : Shared) (v : Value), BindsTo s fd ⟨[v], []⟩ [(p, v)]) ∧ ∀ base : Heap, K.In base → base.Ns mainGlobals mg → FnOk P w K mg base CX0 k fa fd [p] sp := by
  obtain ⟨f, fd, F, m⟩ := D.ex
  rw [m] at hfa
  cases hfa
  obtain ⟨oc, od, kV, doc, pm, an, cdv, ct, osl, rfl, lk, hcd⟩ := F.ex
  refine ⟨_, fun s v => .of_eq (hb kV doc pm an cdv ct v), fun base _ _ => ?_⟩
  obtain ⟨f', fd', G, m', _, _, o, lo, ed⟩ := (C base).ex
  rw [m] at m'
  cases m'
  rw [lk] at lo
  cases lo
  cases ed
  exact G
end L2

namespace L2
open PySem PySem.Spec PyProof.Rows

/-! ## An exception on its way: its object has a traceback and no context; B is what stays as it is -/
structure Fly (B : Heap) (l : List Env) (x : Addr) (c fl : Value) (h : Heap) : Prop where
  stay : B.StaysIn h
  new : B.get? x = none
  frs : h.FunFrames B l
  obj : ∃ (oe : Obj) (vs : Array Value) (T : Addr) (oT : Obj) (ts : Array Value), h.get? x = some oe ∧ (oe.cls = c ∧ oe.dict = none) ∧ oe.data = .fields vs ∧ vs[1]? = some (.ref T) ∧ vs[2]? = some .none ∧ B.get? T = none ∧ T ≠ x ∧ h.get? T = some oT ∧ oT.data = .fields ts ∧ ts[3]? = some fl
/-- just made: no traceback yet -/
structure Fresh (B : Heap) (l : List Env) (x : Addr) (c : Value) (h : Heap) : Prop where
  stay : B.StaysIn h
  new : B.get? x = none
  frs : h.FunFrames B l
  obj : ∃ (oe : Obj) (vs : Array Value), h.get? x = some oe ∧ (oe.cls = c ∧ oe.dict = none) ∧ oe.data = .fields vs ∧ vs[1]? = some .none ∧ vs[2]? = some .none
section
variable {M : Model} {A : Around} {E : Value → Shared → Prop} {s : Shared} {B : Heap} {l outer : List Env} {env : Env} {x L : Addr} {c : Value}
theorem dict_mapFields (o : Obj) (f : Array Value → Array Value) : (o.mapFields f).dict = o.dict := by
  unfold Obj.mapFields
  split <;> rfl
theorem setFields_get {h : Heap} {a b : Addr} {o : Obj} {vs : Array Value} {f : Array Value → Array Value} (ha : h.get? a = some o) (hd : o.data = .fields vs) :
    (h.update a (Obj.mapFields f)).get? a = some (o.mapFields f) ∧ (b ≠ a → (h.update a (Obj.mapFields f)).get? b = h.get? b) :=
  ⟨Heap.get?_update_self _ ha (Obj.isFreed_of_fields (Obj.data_mapFields hd f)), fun hb => Heap.get?_update_other _ _ (Ne.symm hb)⟩
/-- a row of the traceback -/
theorem fly_entry {oe : Obj} {vs : Array Value} {head : Value} {hadNext : Bool} {Q : Unit → Shared → Prop} (hfr : A.frames = some (env :: outer)) (hl : s.heap.FunFrames B (env :: outer)) (hf : env.frame = some L)
    (st : B.StaysIn s.heap) (nx : B.get? x = none) (hx : s.heap.get? x = some oe) (hc : oe.cls = c ∧ oe.dict = none) (hd : oe.data = .fields vs) (h2 : vs[2]? = some .none)
    (k : ∀ h', Fly B (env :: outer) x c (rawInt L) h' → s.heap.UpToSlots h' → Q () { s with heap := h' }) :
    wpAny M A (do let a ← frameOf env; let pl ← entryPlaceOf L hadNext; let b ← EntryCells.newEntry head a .none (rawInt L) .none pl; setField (.ref x) 1 b) Q E s := by
  have hsz : 2 < vs.size := (Array.getElem?_eq_some_iff.mp h2).1
  have xnf : x ∉ (env :: outer).filterMap (·.frame) := fun hm => by
    obtain ⟨_, o, ho, hno⟩ := hl.mem hm
    rw [hx] at ho
    cases ho
    exact hno vs hd
  refine wpAny_bind (wpAny_frameOf_fun hfr hl hf fun g1 so => wpAny_bind (wpAny_entryPlaceOf fun pl hpl => ?_))
  unfold EntryCells.newEntry newFields
  refine wpAny_bind (wpAny_newObj_type ?_ (hpl.sizeOk5 _ _ _ _ _))
  have hx1 : g1.get? x = some oe := (so.2.1 x xnf).trans hx
  have st1 : B.StaysIn g1 := fun b o hb => by
    refine (so.2.1 b fun hm => ?_).trans (st b o hb)
    have := (hl.mem hm).1
    rw [hb] at this
    cases this
  have big : x < g1.objs.size := Heap.lt_size hx1
  generalize hnew : ({ cls := .type "traceback", dict := none, data := .fields ([head, .ref L, .none, rawInt L, .none] ++ (if pl.isEmpty then List.replicate 6 Value.none else pl)).toArray } : Obj) = tb
  have hx2 : (g1.push tb).get? x = some oe := Heap.get?_push_of_some tb hx1
  refine wpAny_setField hx2 hd (by omega) (k _ ?_ ?_)
  · have tx : g1.objs.size ≠ x := Nat.ne_of_gt big
    obtain ⟨e1, e2⟩ := setFields_get (b := g1.objs.size) (f := fun a => a.setIfInBounds 1 (Value.ref g1.objs.size)) hx2 hd
    have hT : (g1.push tb).get? g1.objs.size = some tb := Heap.get?_push_size g1 (by rw [← hnew]; rfl)
    refine ⟨fun b o hb => ?_, nx, hl.of_keeps fun b o hb hno => ?_, _, _, g1.objs.size, tb, _, e1, ⟨(Obj.cls_mapFields _ _).trans hc.1, (dict_mapFields _ _).trans hc.2⟩, Obj.data_mapFields hd _, (by show (vs.setIfInBounds 1 (Value.ref g1.objs.size))[1]? = _; simp [show 1 < vs.size by omega]), ?_, st1.fresh, tx, (e2 tx).trans hT, by rw [← hnew], ?_⟩
    · obtain ⟨_, e3⟩ := setFields_get (b := b) (f := fun a => a.setIfInBounds 1 (Value.ref g1.objs.size)) hx2 hd
      refine (e3 fun z => ?_).trans (Heap.get?_push_of_some tb (st1 b o hb))
      rw [z, nx] at hb
      cases hb
    · have bx : b ≠ x := fun z => by
        rw [z, hx] at hb
        cases hb
        exact hno vs hd
      obtain ⟨sl, hs⟩ := so.2.2 b o hb
      obtain ⟨_, e3⟩ := setFields_get (b := b) (f := fun a => a.setIfInBounds 1 (Value.ref g1.objs.size)) hx2 hd
      exact ⟨_, (e3 bx).trans (Heap.get?_push_of_some tb hs), rfl⟩
    · rw [Array.getElem?_setIfInBounds_ne (by decide)]
      exact h2
    · rcases hpl with rfl | ⟨_, _, _, _, _, _, _, rfl⟩ <;> rfl
  · intro b o hb hno
    have bx : b ≠ x := fun z => by
      rw [z, hx] at hb
      cases hb
      exact hno vs hd
    obtain ⟨sl, hs⟩ := so.2.2 b o hb
    obtain ⟨_, e3⟩ := setFields_get (b := b) (f := fun a => a.setIfInBounds 1 (Value.ref g1.objs.size)) hx2 hd
    exact ⟨sl, (e3 bx).trans (Heap.get?_push_of_some tb hs)⟩
/-- the mark of where it flies is taken off -/
theorem fly_land {fl : Value} {Q : Unit → Shared → Prop} (F : Fly B l x c fl s.heap) (k : ∀ h', Fly B l x c .none h' → s.heap.UpToSlots h' → Q () { s with heap := h' }) : wpAny M A (setFlight (.ref x) none) Q E s := by
  obtain ⟨oe, vs, T, oT, ts, hx, hc, hd, h1, h2, nT, tx, hT, dT, h3⟩ := F.obj
  have hsz : 3 < ts.size := (Array.getElem?_eq_some_iff.mp h3).1
  unfold setFlight
  refine wpAny_bind (wpAny_field hx hd h1 ?_)
  rw [if_pos (by simp)]
  refine wpAny_setField hT dT hsz (k _ ?_ ?_)
  · have e : ∀ b, b ≠ T → (s.heap.update T (Obj.mapFields (·.setIfInBounds 3 ((none : Option Addr).elim Value.none fun f => rawInt f)))).get? b = s.heap.get? b := fun b hb => (setFields_get hT dT).2 hb
    refine ⟨fun b o hb => (e b fun z => ?_).trans (F.stay b o hb), F.new, F.frs.of_keeps fun b o hb hno => ⟨o, (e b fun z => ?_).trans hb, rfl⟩, oe, vs, T, _, _, (e x (Ne.symm tx)).trans hx, hc, hd, h1, h2, nT, tx, (setFields_get (b := T) hT dT).1, Obj.data_mapFields dT _, by simp [hsz]⟩
    · rw [z, nT] at hb; cases hb
    · rw [z, hT] at hb; cases hb; exact hno ts dT
  · intro b o hb hno
    refine ⟨o.slots, ((setFields_get hT dT).2 fun z => ?_).trans hb⟩
    rw [z, hT] at hb; cases hb; exact hno ts dT
/-- the frame is noted -/
theorem fly_note {Q : Unit → Shared → Prop} (hfr : A.frames = some (env :: outer)) (hf : env.frame = some L) (F : Fly B (env :: outer) x c .none s.heap)
    (k : ∀ h', Fly B (env :: outer) x c (rawInt L) h' → s.heap.UpToSlots h' → Q () { s with heap := h' }) : wpAny M A (noteFrame (.ref x) env) Q E s := by
  obtain ⟨oe, vs, T, oT, ts, hx, hc, hd, h1, h2, nT, tx, hT, dT, h3⟩ := F.obj
  have hsz : 3 < ts.size := (Array.getElem?_eq_some_iff.mp h3).1
  unfold noteFrame
  simp only [hf]
  refine wpAny_bind (wpAny_field hx hd h1 ?_)
  rw [if_pos (by simp)]
  refine wpAny_bind (wpAny_field hT dT h3 ?_)
  rw [if_neg (by simp [rawInt])]
  refine wpAny_bind (wpAny_setField hT dT hsz ?_)
  have e : ∀ b, b ≠ T → (s.heap.update T (Obj.mapFields (·.setIfInBounds 3 Value.none))).get? b = s.heap.get? b := fun b hb => (setFields_get hT dT).2 hb
  have nf : ∀ b o, s.heap.get? b = some o → (∀ vs, o.data ≠ .fields vs) → b ≠ T := fun b o hb hno z => by
    rw [z, hT] at hb; cases hb; exact hno ts dT
  refine fly_entry hfr (F.frs.of_keeps fun b o hb hno => ⟨o, (e b (nf b o hb hno)).trans hb, rfl⟩) hf (fun b o hb => (e b fun z => ?_).trans (F.stay b o hb)) F.new ((e x (Ne.symm tx)).trans hx) hc hd h2 fun h' F' u => k h' F' fun b o hb hno => ?_
  · rw [z, nT] at hb; cases hb
  · exact u b o ((e b (nf b o hb hno)).trans hb) hno
theorem fresh_note {Q : Unit → Shared → Prop} (hfr : A.frames = some (env :: outer)) (hf : env.frame = some L) (F : Fresh B (env :: outer) x c s.heap)
    (k : ∀ h', Fly B (env :: outer) x c (rawInt L) h' → s.heap.UpToSlots h' → Q () { s with heap := h' }) : wpAny M A (noteFrame (.ref x) env) Q E s := by
  obtain ⟨oe, vs, hx, hc, hd, h1, h2⟩ := F.obj
  unfold noteFrame
  simp only [hf]
  refine wpAny_bind (wpAny_field hx hd h1 ?_)
  rw [if_neg (by decide)]
  exact fly_entry hfr F.frs hf F.stay F.new hx hc hd h2 k
theorem Fly.tail {fl : Value} {h : Heap} (F : Fly B (env :: outer) x c fl h) : Fly B outer x c fl h := ⟨F.stay, F.new, F.frs.2.2, F.obj⟩
/-- out of a frame -/
theorem fly_leave {Q : Unit → Shared → Prop} (hfr : A.frames = some (env :: outer)) (hf : env.frame = some L) (F : Fly B (env :: outer) x c .none s.heap)
    (k : ∀ h', Fly B outer x c .none h' → s.heap.UpToSlots h' → Q () { s with heap := h' }) : wpAny M A (leaving env (.ref x)) Q E s := by
  unfold leaving
  exact wpAny_bind (fly_note hfr hf F fun h1 F1 u1 => fly_land (s := { s with heap := h1 }) F1 fun h2 F2 u2 => k h2 F2.tail (u1.trans u2))
theorem fresh_leave {Q : Unit → Shared → Prop} (hfr : A.frames = some (env :: outer)) (hf : env.frame = some L) (F : Fresh B (env :: outer) x c s.heap)
    (k : ∀ h', Fly B outer x c .none h' → s.heap.UpToSlots h' → Q () { s with heap := h' }) : wpAny M A (leaving env (.ref x)) Q E s := by
  unfold leaving
  exact wpAny_bind (fresh_note hfr hf F fun h1 F1 u1 => fly_land (s := { s with heap := h1 }) F1 fun h2 F2 u2 => k h2 F2.tail (u1.trans u2))
end
end L2
namespace L2
open PySem PySem.Spec PyProof.Rows
section
variable {P : Program} {w : World}
theorem ObjOk.there {H : Hp} {h : Heap} {a : Addr} {o : HO} (x : ObjOk P w H h a o) : ∃ ob, h.get? a = some ob := by
  cases o with
  | lst xs => obtain ⟨_, _, _, _, e⟩ := x; exact ⟨_, e⟩
  | tup xs => obtain ⟨_, _, _, o, e, _⟩ := x; exact ⟨o, e⟩
  | dK kvs => obtain ⟨_, _, _, _, o, _, _, e, _⟩ := x; exact ⟨o, e⟩
  | dT kvs => obtain ⟨_, _, _, _, o, _, _, e, _⟩ := x; exact ⟨o, e⟩
  | set S n => obtain ⟨o, _, _, _, e, _⟩ := x; exact ⟨o, e⟩
  | ins C dx fs => obtain ⟨_, _, _, e, _⟩ := x; exact ⟨_, e⟩
  | own y => exact x
  | xd fs => obtain ⟨_, ⟨o, _, _, e, _⟩, _⟩ := x; exact ⟨o, e⟩
  | rng lo hi => obtain ⟨_, _, _, e⟩ := x; exact ⟨_, e⟩
  | frz ob u => obtain ⟨e, _⟩ := x; exact ⟨_, e⟩
  | tbl ps => exact ⟨_, (show h.get? a = some _ from x)⟩
  | met f y => exact ⟨_, (show h.get? a = some _ from x)⟩
  | ext φ => obtain ⟨_, e, _⟩ := x; exact e
/-- how an exception lies behind a call: on its way through the callers' frames; what is tracked, and what was there at the call, stays -/
def CX1 (P : Program) (w : World) : CXT := fun outer H s E e s' => ∃ (x : Addr) (c : Value) (B : Heap) (H' : Hp), e = .ref x ∧ Fly B outer x c .none s'.heap ∧ s'.os = s.os ∧ AllBare s'.gens ∧ Un (frs outer) [] H H' s.heap s'.heap ∧ HOk P w H' s'.heap ∧ H' x = none ∧
  (∀ b o, H' b = some o → ∃ ob, B.get? b = some ob) ∧ (∀ b o, s.heap.get? b = some o → b ∉ frs outer → ∃ ob, B.get? b = some ob) ∧ E c none H'
theorem fly_hok {B h h' : Heap} {H : Hp} (ok : HOk P w H h) (st : B.StaysIn h) (st' : B.StaysIn h') (inB : ∀ b o, H b = some o → ∃ ob, B.get? b = some ob) : HOk P w H h' := fun a o e => by
  refine (ok a o e).stay (fun b u hb q => ?_) (fun _ q => q) fun _ _ q => q
  have ⟨ob, hB⟩ : ∃ ob, B.get? b = some ob := by
    rcases hb with z | z
    · rw [z]; exact inB a o e
    · exact inB b _ z
  have := st b ob hB
  rw [q] at this
  cases this
  exact st' b _ hB
theorem fly_un {B h0 h h' : Heap} {fs : List Addr} {H H' : Hp} (u : Un fs [] H H' h0 h) (st : B.StaysIn h) (st' : B.StaysIn h') (up : h.UpToSlots h') (inB : ∀ b o, h0.get? b = some o → b ∉ fs → ∃ ob, B.get? b = some ob)
    (hfs : ∀ b ∈ fs, ∀ o, h.get? b = some o → ∀ vs, o.data ≠ .fields vs) : Un fs [] H H' h0 h' where
  keep := fun b o e n hb hx => by
    obtain ⟨ob, hB⟩ := inB b o e hb
    have q := u.keep b o e n hb hx
    have := st b ob hB
    rw [q] at this
    cases this
    exact st' b _ hB
  slot := fun b o e n hb hx => by
    obtain ⟨sl, q⟩ := u.slot b o e n hb hx
    obtain ⟨sl', q'⟩ := up b _ q (hfs b hb _ q)
    exact ⟨sl', q'⟩
  free := u.free
  there := fun b o e hx => by
    by_cases hb : b ∈ fs
    · obtain ⟨o', q⟩ := u.there b o e hx
      obtain ⟨sl, q'⟩ := up b o' q (hfs b hb o' q)
      exact ⟨_, q'⟩
    · obtain ⟨ob, hB⟩ := inB b o e hb
      exact ⟨ob, st' b ob hB⟩
  tups := u.tups
  frzs := u.frzs
  tbls := u.tbls
theorem fly_data {B h : Heap} {l : List Env} (f : h.FunFrames B l) : ∀ b ∈ frs l, ∀ o, h.get? b = some o → ∀ vs, o.data ≠ .fields vs := fun b hb o e vs => by
  obtain ⟨_, o', e', hno⟩ := f.mem hb
  rw [e] at e'
  cases e'
  exact hno vs
/-- what happened in a body, then in a callee: seen from the body's entry -/
theorem un_through {X : Cx} {pins : List (Addr × Obj)} {σ : St} {H H' : Hp} {s : Shared} {h' : Heap} (I : Inv X pins σ H s) (hex : X.ex = []) (u : Un (frs X.stack) [] H H' s.heap h') : Un X.fs [] X.H₀ H' X.s₀.heap h' := by
  have nl : ∀ b o, X.s₀.heap.get? b = some o → b ≠ X.env.locals := fun b o e => Nat.ne_of_lt (Nat.lt_of_lt_of_le (Heap.lt_size e) I.ok.above)
  have nst : ∀ b o, X.s₀.heap.get? b = some o → b ∉ X.fs → b ∉ frs X.stack := fun b o e hb z => (List.mem_cons.mp (I.stkSub b z)).elim (nl b o e) hb
  have B := I.base
  rw [hex] at B
  refine ⟨fun b o e n hb hx => u.keep b o (B.keep b o e n hb hx) (B.free b o e n hx) (nst b o e hb) hx, fun b o e n hb hx => ?_, fun b o e n hx => ?_, fun b o e hx => ?_, fun b xs e => u.tups b xs (B.tups b xs e), fun b o v e => u.frzs b o v (B.frzs b o v e), fun b ps e => ?_⟩
  · obtain ⟨sl, e1⟩ := B.slot b o e n hb hx
    obtain ⟨sl', e2⟩ := u.any e1 (B.free b o e n hx) hx
    exact ⟨sl', e2⟩
  · obtain ⟨o', e1⟩ := B.there b o e hx
    exact u.free b o' e1 (B.free b o e n hx) hx
  · obtain ⟨o', e1⟩ := B.there b o e hx
    exact u.there b o' e1 hx
  · obtain ⟨m1, e1⟩ := B.tbls b ps e
    obtain ⟨m2, e2⟩ := u.tbls b _ e1
    exact ⟨m1 ++ m2, by rw [e2, Array.append_assoc]⟩
/-- an exception of a callee passes this def's frame -/
theorem pass1 {K : PySem.W.Frag} {mg : Str → Option Value} {base : Heap} {N : List Str} {qual : Str} {scope : Scope} {f : Addr} {cd : Value} {A : Around} {outer : List Env} {s₀ : Shared} {H₀ : Hp} {E : XK} :
    Passes (CX1 P w) (cxOf (CX1 P w) P w K mg base N qual scope f cd A outer s₀ H₀ E) E := by
  intro pins σ H s e s' I h
  obtain ⟨x, c, B, H', rfl, F, ho, hg, u, ok, nx, inB, old, q⟩ := h
  have hfr : (A.deeper (envOfC qual scope s₀.heap.objs.size f cd)).frames = some (envOfC qual scope s₀.heap.objs.size f cd :: outer) := I.ok.frames
  have ut : Un (frs outer) [] H₀ H' s₀.heap s'.heap := un_through I rfl u
  have old' : ∀ b o, s₀.heap.get? b = some o → b ∉ frs outer → ∃ ob, B.get? b = some ob := fun b o e hb => by
    obtain ⟨o', e1⟩ := I.base.there b o e (by show b ∉ ([] : List Addr); simp)
    refine old b o' e1 fun z => ?_
    rcases List.mem_cons.mp (I.stkSub b z) with z | z
    · exact absurd (Nat.lt_of_lt_of_le (Heap.lt_size e) I.ok.above) (by rw [z]; exact Nat.lt_irrefl _)
    · exact hb z
  show wpAny (model P w) _ (leaving _ (.ref x)) _ _ s'
  refine fly_leave hfr rfl F fun h' F' up => ⟨x, c, B, H', rfl, F', (show s'.os = s₀.os from ho.trans I.os), hg, fly_un ut F.stay F'.stay up old' (fly_data F.tail.frs), fly_hok ok F.stay F'.stay inB, nx, inB, old', q⟩
/-- a callee that raises nothing that is wanted -/
theorem pass_no {X : Cx} {E : XK} (hE : ∀ c d H, ¬ E c d H) : Passes (CX1 P w) X E := fun _ _ _ _ _ _ _ h => by
  obtain ⟨_, _, _, _, _, _, _, _, _, _, _, _, _, q⟩ := h
  exact (hE _ _ _ q).elim
theorem pass_E0 {X : Cx} : Passes (CX1 P w) X E0 := pass_no fun _ _ _ h => h
/-- an exception just made, out of this def's frame -/
theorem raise_out {K : PySem.W.Frag} {mg : Str → Option Value} {base : Heap} {N : List Str} {qual : Str} {scope : Scope} {f : Addr} {cd : Value} {A : Around} {outer : List Env} {s₀ : Shared} {H₀ : Hp} {E : XK} {pins : List (Addr × Obj)} {σ : St} {H : Hp} {s s' : Shared} {x : Addr} {c : Value} {args : List Value}
    (I : Inv (cxOf (CX1 P w) P w K mg base N qual scope f cd A outer s₀ H₀ E) pins σ H s) (hx : Heap.MadeExcOf s.heap s'.heap x c args) (ho : s'.os = s.os) (hg : AllBare s'.gens) (q : E c none H) :
    (cxOf (CX1 P w) P w K mg base N qual scope f cd A outer s₀ H₀ E).xe (.ref x) s' := by
  have hfr : (A.deeper (envOfC qual scope s₀.heap.objs.size f cd)).frames = some (envOfC qual scope s₀.heap.objs.size f cd :: outer) := I.ok.frames
  have hin : ∀ env ∈ envOfC qual scope s₀.heap.objs.size f cd :: outer, ∀ a, env.frame = some a → a ∈ frs (envOfC qual scope s₀.heap.objs.size f cd :: outer) := fun env he a ha => List.mem_filterMap.mpr ⟨env, he, ha⟩
  have st : (PySem.W.hideAll s.heap (frs (envOfC qual scope s₀.heap.objs.size f cd :: outer))).StaysIn s'.heap := fun b o e => hx.keeps b o (PySem.W.of_hideAll _ e)
  have nx : (PySem.W.hideAll s.heap (frs (envOfC qual scope s₀.heap.objs.size f cd :: outer))).get? x = none := by
    cases e : (PySem.W.hideAll s.heap (frs (envOfC qual scope s₀.heap.objs.size f cd :: outer))).get? x with
    | none => rfl
    | some o =>
      have := PySem.W.of_hideAll _ e
      rw [hx.new] at this
      cases this
  have fr0 : s.heap.FunFrames (PySem.W.hideAll s.heap (frs (envOfC qual scope s₀.heap.objs.size f cd :: outer))) (envOfC qual scope s₀.heap.objs.size f cd :: outer) := PySem.W.funFrames_hide I.stack hin
  obtain ⟨t, hobj, _, _⟩ := hx.there
  have F : Fresh (PySem.W.hideAll s.heap (frs (envOfC qual scope s₀.heap.objs.size f cd :: outer))) (envOfC qual scope s₀.heap.objs.size f cd :: outer) x c s'.heap :=
    ⟨st, nx, fr0.of_keeps fun b o hb _ => ⟨o, hx.keeps b o hb, rfl⟩, _, _, hobj, ⟨rfl, rfl⟩, rfl, rfl, rfl⟩
  have inB : ∀ b o, s.heap.get? b = some o → b ∉ frs (envOfC qual scope s₀.heap.objs.size f cd :: outer) → ∃ ob, (PySem.W.hideAll s.heap (frs (envOfC qual scope s₀.heap.objs.size f cd :: outer))).get? b = some ob := fun b o e hb => ⟨o, PySem.W.hideAll_get _ e hb⟩
  have trk : ∀ b o, H b = some o → ∃ ob, (PySem.W.hideAll s.heap (frs (envOfC qual scope s₀.heap.objs.size f cd :: outer))).get? b = some ob := fun b o e => by
    have lt := I.hok.lt e
    cases e2 : s.heap.get? b with
    | none =>
      exfalso
      have ok := I.hok b o e
      obtain ⟨ob, hob⟩ := ok.there
      rw [e2] at hob
      cases hob
    | some ob =>
      refine inB b ob e2 fun z => ?_
      have := I.stkFree b z
      rw [e] at this
      cases this
  have old : ∀ b o, s₀.heap.get? b = some o → b ∉ frs outer → ∃ ob, (PySem.W.hideAll s.heap (frs (envOfC qual scope s₀.heap.objs.size f cd :: outer))).get? b = some ob := fun b o e hb => by
    obtain ⟨o', e1⟩ := I.base.there b o e (by show b ∉ ([] : List Addr); simp)
    refine inB b o' e1 fun z => ?_
    rcases List.mem_cons.mp (I.stkSub b z) with z | z
    · exact absurd (Nat.lt_of_lt_of_le (Heap.lt_size e) I.ok.above) (by rw [z]; exact Nat.lt_irrefl _)
    · exact hb z
  have u0 : Un (frs outer) [] H₀ H s₀.heap s.heap := un_through I rfl Un.refl
  have u1 : Un (frs outer) [] H₀ H s₀.heap s'.heap := u0.trans (Un.kept hx.keeps)
  have ok1 : HOk P w H s'.heap := I.hok.kept hx.keeps
  have nxH : H x = none := by
    cases e : H x with
    | none => rfl
    | some o =>
      obtain ⟨ob, hob⟩ := (I.hok x o e).there
      rw [hx.new] at hob
      cases hob
  show wpAny (model P w) _ (leaving _ (.ref x)) _ _ s'
  exact fresh_leave hfr rfl F fun h' F' up => ⟨x, c, _, H, rfl, F', (show s'.os = s₀.os from ho.trans I.os), hg, fly_un u1 F.stay F'.stay up old (fly_data F.frs.2.2), fly_hok ok1 F.stay F'.stay trk, nxH, trk, old, q⟩
end
end L2

namespace L2
open PySem PySem.Spec PyProof.Rows

/-! ## While an exception is handled -/
theorem entry_unchain : entryFor table "proto.unchain" = some Builtin.«proto.unchain» := entryFor_of_tree (by kernel_rfl)
section
variable {prog : Program} {w : World} {A : Around} {E : Value → Shared → Prop} {s : Shared}
/-- a new exception while another one, without context, is handled -/
theorem raiseNew_h {α : Type} {x e : Addr} {ox oe : Obj} {vs xs : Array Value} {Q : α → Shared → Prop} (hh : A.handled = some (.ref e)) (hx : s.heap.get? x = some ox) (dx : ox.data = .fields xs) (hs : 2 < xs.size) (ne : e ≠ x)
    (he : s.heap.get? e = some oe) (de : oe.data = .fields vs) (h2 : vs[2]? = some .none)
    (h : E (.ref x) { s with heap := s.heap.update x (Obj.mapFields (·.setIfInBounds 2 (.ref e))) }) : wpAny (model prog w) A (raiseNew (.ref x) : Sem α) Q E s := by
  unfold raiseNew
  refine wpAny_bind (wpAny_handled ?_)
  rw [hh]
  dsimp only
  rw [if_pos (by simpa using ne)]
  refine wpAny_bind (wpAny_holding (wpAny_runValue (codeAny_builtin entry_unchain ?_)))
  unfold Builtin.«proto.unchain»
  dsimp only
  refine wpAny_bind (wpAny_field he de h2 ?_)
  rw [if_pos (by decide)]
  refine wpAny_pure ?_
  dsimp only
  refine wpAny_bind ?_
  unfold updateField
  refine wpAny_bind (wpAny_load hx ?_)
  rw [dx]
  dsimp only
  rw [if_pos hs]
  refine wpAny_update hx ?_
  exact wpAny_throw h
theorem range_end_h {it e : Addr} {oe : Obj} {vs : Array Value} {x left step : Int} {Q : Option Value → Shared → Prop} (hh : A.handled = some (.ref e)) (he : s.heap.get? e = some oe) (de : oe.data = .fields vs) (h2 : vs[2]? = some .none)
    (hit : IsRangeIter s.heap it x left step) (hleft : left ≤ 0)
    (hQ : ∀ h', Heap.ExtBut it s.heap h' → Q none { s with heap := h' }) : wpAny (model prog w) A (pyNext (.ref it)) Q E s := by
  have ty : s.TypeIs (.ref it) "range_iterator" := ⟨_, hit, rfl⟩
  unfold pyNext
  refine wpAny_bind (wpAny_attempt (wpAny_callSpecial?_slot (name := Str.ofString "__next__") ty F.slot_range_iterator_next (wpAny_call_entry F.slot_range_iterator_next ty F.entry_range_iterator_next (?_ : wpAny _ _ (field (.ref it) 0 >>= _) _ _ s) (F.args_range_iterator_next_1 _))))
  refine wpAny_bind (wpAny_field hit rfl (x := rawInt x) rfl (?_ : wpAny _ _ (field (.ref it) 1 >>= _) _ _ s))
  refine wpAny_bind (wpAny_field hit rfl (x := rawInt left) rfl (?_ : wpAny _ _ (field (.ref it) 2 >>= _) _ _ s))
  refine wpAny_bind (wpAny_field hit rfl (x := rawInt step) rfl (?_ : wpAny _ _ (if left ≤ 0 then _ else _) _ _ s))
  rw [if_pos hleft]
  refine wpAny_bind (wpAny_rule (wpAny_bind (?_ : wpAny _ _ (newExc (.type "StopIteration") [] >>= _) _ _ _)))
  refine wpAny_bind (?_ : wpAny _ _ (newTuple [] >>= _) _ _ _)
  simp only [newTuple]
  refine wpAny_bind (wpAny_newObj_type (wpAny_bind (m := firstArgMember _ _) (wpAny_of_eq (a := Value.none) (by first | rfl | (simp only [firstArgMember]; rfl)) (wpAny_newObj_type ?_ (by size_fits)))) (by size_fits))
  refine raiseNew_h (A := A.in1) (e := e) (oe := oe) (vs := vs) (show A.in1.handled = some (.ref e) from hh) (Heap.get?_push_size _ rfl) rfl (by rw [Array.size_append]; exact Nat.lt_of_lt_of_le (show 2 < 6 by decide) (Nat.le_add_right _ _)) ?_ (Heap.get?_push_of_some _ (Heap.get?_push_of_some _ he)) de h2 ?_
  · rw [Heap.size_push]
    exact Nat.ne_of_lt (Nat.lt_succ_of_lt (Heap.lt_size he))
  · refine wpAny_bind (wpAny_isInstance (T := "StopIteration") (b := true) ⟨_, Heap.get?_update_self _ (Heap.get?_push_size _ rfl) rfl, rfl⟩ isSubtype_stop ?_)
    refine wpAny_pure (hQ _ fun b o hb hbo => ?_)
    rw [Heap.get?_update_other _ _ ?_]
    · exact Heap.get?_push_of_some _ (Heap.get?_push_of_some _ hbo)
    · rw [Heap.size_push]
      exact Nat.ne_of_gt (Nat.lt_succ_of_lt (Heap.lt_size hbo))
end
/-- the exception at e is handled, its record oe is pinned, it has no context -/
def QH (e : Addr) (oe : Obj) (Y : Cx) : Prop := Y.A.handled = some (.ref e) ∧ (e, oe) ∈ Y.pn ∧ ∃ vs, oe.data = .fields vs ∧ vs[2]? = some .none
section
variable {X : Cx} {tg : Expr} {e : Addr} {oe : Obj}
theorem QH.comp {scope : Scope} {N : List Str} {cl : List (Str × Addr)} {C : Addr} {s : Shared} {H : Hp} {fp : List Addr} {pins : List (Addr × Obj)} (q : QH e oe X) : QH e oe (cxComp X scope N cl C s H fp (X.pn ++ pins)) :=
  ⟨q.1, List.mem_append_left _ q.2.1, q.2.2⟩
theorem range_item_q {it : Addr} {lo : Int} {n i : Nat} {pins : List (Addr × Obj)} {s : Shared} {σ : St} {H : Hp} {E : Value → Shared → Prop} (I : Inv X pins σ H s) (hf : ∀ b ∈ [it], FpOk X pins H b)
    (st : IsRangeIter s.heap it (lo + (i : Nat) * 1) ((n : Int) - (i : Nat)) 1) (hg : i < n) :
    wpAny (model X.prog X.w) X.A (pyNext (.ref it)) (fun r s1 => ∃ u, r = some u ∧
      wpAny (model X.prog X.w) X.A (letOwnedTupleGo tg (.ref it) u) (fun _ s2 => ∃ x H', Inv X pins σ H' s2 ∧ RelV x u ∧ (Itr lo n).yld i H x H' ∧ IsRangeIter s2.heap it (lo + ((i + 1 : Nat) : Int) * 1) ((n : Int) - ((i + 1 : Nat) : Int)) 1 ∧ ∀ b ∈ [it], H' b = none) E s1) E s := by
  obtain ⟨f0, f1, f2, f3, f4, f5⟩ := hf it (by simp)
  refine wpAny_pyNext_range_item st (by omega) fun h' st' sb => ?_
  have I1 : Inv X pins σ H { s with heap := h', toks := s.toks + 1 } := I.turned (fun b o hb e => (sb.2 b hb).trans e) f0 f1 f3 f4 f5
  have st2 : IsRangeIter h' it (lo + ((i + 1 : Nat) : Int) * 1) ((n : Int) - ((i + 1 : Nat) : Int)) 1 := by
    have e1 : lo + ((i + 1 : Nat) : Int) * 1 = lo + (i : Nat) * 1 + 1 := by omega
    have e2 : (n : Int) - ((i + 1 : Nat) : Int) = (n : Int) - (i : Nat) - 1 := by omega
    rw [e1, e2]; exact st'
  refine ⟨_, rfl, go_of (s := { s with heap := h', toks := s.toks + 1 }) (n := "range_iterator") st2 rfl rfl (by decide) ⟨.int (lo + i), H, I1, ⟨s.toks, ?_⟩, ⟨rfl, rfl⟩, st2, fun b hb => (hf b hb).1⟩⟩
  rw [Int.mul_one]
theorem trn_range {P : Program} {w : World} {K : PySem.W.Frag} (it : Addr) (lo : Int) (n : Nat) : Trn P w K (QH e oe) tg (Itr lo n) [it] it (fun i h => IsRangeIter h it (lo + (i : Nat) * 1) ((n : Int) - (i : Nat)) 1) where
  obj := fun i h st b hb => by
    have e : b = it := by simpa using hb
    subst e
    exact ⟨_, st, fun v z => by
      have z' : Data.fields _ = Data.cell v := z
      cases z'⟩
  keep := fun i h h' st k => k it (by simp) _ st
  steps := fun Y hP hw hK hz => ⟨fun i pins s σ H E I hf st hg => range_item_q I hf st hg, fun i pins s σ H E I hf st hg => by
    obtain ⟨hh, hm, vs, de, h2⟩ := hz
    obtain ⟨f0, f1, f2, f3, f4, f5⟩ := hf it (by simp)
    exact range_end_h hh (I.pin (e, oe) (List.mem_append_left _ hm)).1 de h2 st (by have : n ≤ i := hg; omega) fun h' eb => ⟨rfl, I.turned (t' := s.toks) (fun b o hb e => eb b o hb e) f0 f1 f3 f4 f5⟩⟩
  self := fun _ _ _ _ _ st h => wpAny_pyIter_rangeiter st h
theorem range_itq {pins : List (Addr × Obj)} {σ : St} {H : Hp} {s : Shared} {R : It → Hp → Prop} {E : Value → Shared → Prop} {lo hi : Int} {t u v : Tok} {tk : Nat} (I : Inv X pins σ H s) (h1 : -(2 ^ 62) ≤ lo) (h2 : lo < 2 ^ 62) (h3 : -(2 ^ 62) ≤ hi) (h4 : hi < 2 ^ 62)
    (q : R (Itr lo (hi - lo).toNat) H) : wpAny (model X.prog X.w) X.A (pyIter (.ref s.heap.objs.size)) (PIEq (QH e oe) X pins σ tg R) E { s with heap := s.heap.push { cls := .type "range", data := .fields #[.int lo t, .int hi u, .int 1 v] }, toks := tk } := by
  refine wpAny_pyIter_range (IsRange.new ..) (small_one h1 h2 h3 h4) ?_
  have I1 : Inv X pins σ H { s with heap := s.heap.push { cls := .type "range", data := .fields #[.int lo t, .int hi u, .int 1 v] }, toks := tk } := I.kept fun b o e => Heap.get?_push_of_some _ e
  refine ⟨(s.heap.push { cls := .type "range", data := .fields #[.int lo t, .int hi u, .int 1 v] }).objs.size, [(s.heap.push { cls := .type "range", data := .fields #[.int lo t, .int hi u, .int 1 v] }).objs.size], _, _, H, rfl,
    I1.kept (t' := tk) fun b o e => Heap.get?_push_of_some _ e, trn_range _ lo (hi - lo).toNat, ?_, fun b hb => ?_, q⟩
  · have e1 : lo + ((0 : Nat) : Int) * 1 = lo := by simp
    have e2 : (((hi - lo).toNat : Nat) : Int) - ((0 : Nat) : Int) = Builtin.Range.rangeSize lo hi 1 := by rw [rangeSize_one]; split <;> omega
    show IsRangeIter _ _ (lo + ((0 : Nat) : Int) * 1) ((((hi - lo).toNat : Nat) : Int) - ((0 : Nat) : Int)) 1
    rw [e1, e2]
    exact Heap.get?_push_size _ rfl
  · have e : b = (s.heap.push { cls := .type "range", data := .fields #[.int lo t, .int hi u, .int 1 v] }).objs.size := by simpa using hb
    subst e
    exact I1.fpOk (Nat.le_refl _) (I1.hok.fresh (Nat.le_refl _))
theorem pi_range1q {a : Expr} {ta : TA} {p pos : Pos} (hg : Gl X "range") (hm : X.mg "range" = none) (ha : PA X [a] ta) (hs : starEach [a] X.env = [(false, eval a X.env)] := by rfl) : PIq (QH e oe) X tg (.Call (.Name "range" p) [a] [] pos) (iRng1 ta) := by
  intro pins s σ H R I h
  refine Call_ (ld_blt I hg hm boot_range (PyProof.Rows.callWith_type1 (thn (ha pos pins s σ H _ I h) fun us s1 ⟨vs, H1, I1, r1, q1⟩ => ?_) hs rfl))
  obtain ⟨j, e, q1, q2, q⟩ := q1
  subst e
  cases r1 with
  | cons r rr =>
    cases rr
    obtain ⟨t, rfl⟩ := r
    exact call_range_1 (range_itq I1 (by omega) (by omega) q1 q2 (by simpa using q))
end
end L2

namespace L2
open PySem PySem.Spec PyProof.Rows

/-! ## A def called while an exception is handled -/
structure RoomH (k : Nat) (A : Around) (e : Addr) : Prop where
  hd : A.handled = some (.ref e)
  dp : A.depth + 3 * k + 5 < recursionLimit
  un : A.units + 16 * k + 200 < cLine
theorem Room.mark {k : Nat} {A : Around} {e : Addr} (r : Room k A) : RoomH k (A.mark (some (.ref e))) e := ⟨rfl, r.dp, r.un⟩
theorem RoomH.depth {k : Nat} {A : Around} {e : Addr} (r : RoomH k A e) : A.depth < recursionLimit := by have := r.dp; omega
structure FnOkH (P : Program) (w : World) (K : PySem.W.Frag) (mg : Str → Option Value) (base : Heap) (e : Addr) (oe : Obj) (k : Nat) (f : Addr) (fd : FuncData) (ps : List Str) (sp : Sp) : Prop where
  len : ∀ vs H Q E, sp vs H Q E → vs.length = ps.length
  run : ∀ (A : Around) (outer : List Env) (s : Shared) (H : Hp) (args : Args) (us : List Value) (vs : List V) (Q : VK), RoomH k A e → Env0 P w K mg base A outer s H → s.heap.get? e = some oe → H e = none → e ∉ frs outer → (∀ v, oe.data ≠ .cell v) →
    BindsTo s fd args (ps.zip us) → Vals vs us → sp vs H Q E0 → codeAny (model P w) A (.call (.ref f) args) (CR CX0 outer P w H s Q E0) s
/-- the body's context -/
def cxH (P : Program) (w : World) (K : PySem.W.Frag) (mg : Str → Option Value) (base : Heap) (N : List Str) (qual : Str) (scope : Scope) (f : Addr) (cd : Value) (A : Around) (outer : List Env) (s : Shared) (H : Hp) (e : Addr) (oe : Obj) : Cx :=
  { cxOf CX0 P w K mg base N qual scope f cd A outer s H E0 with calm := false, pn := [(e, oe)], xe := fun _ _ => False }
theorem cxH_q {P : Program} {w : World} {K : PySem.W.Frag} {mg : Str → Option Value} {base : Heap} {N : List Str} {qual : Str} {scope : Scope} {f : Addr} {cd : Value} {A : Around} {outer : List Env} {s : Shared} {H : Hp} {e : Addr} {oe : Obj} {vs : Array Value}
    (hh : A.handled = some (.ref e)) (de : oe.data = .fields vs) (h2 : vs[2]? = some .none) : QH e oe (cxH P w K mg base N qual scope f cd A outer s H e oe) := ⟨hh, List.mem_singleton.mpr rfl, vs, de, h2⟩
theorem fn_ofH {P : Program} {w : World} {K : PySem.W.Frag} {mg : Str → Option Value} {base : Heap} {e : Addr} {oe : Obj} {k : Nat} {f : Addr} {name qual : Str} {params : Arguments} {body : List Stmt} {scope : Scope} {dV kV doc pm cdv ct oc : Value} {an od : Option Addr}
    {osl : Array (Option Value)} {N ps : List Str} {sp : Sp} (lk : K.lookup f = some ⟨oc, od, .func (PySem.W.fnOf name qual params body scope dV kV doc pm an cdv ct), osl⟩) (hcd : PySem.W.codeIn K cdv qual = true) (S : FnScope N ps scope)
    (len : ∀ vs H Q E, sp vs H Q E → vs.length = ps.length)
    (hbody : ∀ (A : Around) (outer : List Env) (s : Shared) (H : Hp) (vs : List V) (Q : VK), A.handled = some (.ref e) → sp vs H Q E0 →
      ∃ t, PSs (cxH P w K mg base N qual scope f cdv A outer s H e oe) body t ∧ t { nx := fun _ H' => Q .non H', rt := Q } (start N vs) H) :
    FnOkH P w K mg base e oe (k + 1) f (PySem.W.fnOf name qual params body scope dV kV doc pm an cdv ct) ps sp := by
  refine ⟨len, fun A outer s H args us vs Q hr e0 he hn hne hnc hb r hsp => ?_⟩
  have hl := len _ _ _ _ hsp
  have KX : K.In s.heap := e0.mod.kin.keeps fun b o e => (e0.bs b o e).1
  have lim : s.heap.NoLimit := e0.mod.nolimit.keeps fun b o e => (e0.bs b o e).1
  have hkind : ∀ y ∈ ps.zip us, scope.names.lookup y.1 = some .local ∨ (scope.names.lookup y.1 = some .cell ∧ ((cellsFrom (s.heap.objs.size + 1) scope.names []).lookup y.1).isSome = true) := fun ⟨n, v⟩ hy => by
    rcases S.par n (List.of_mem_zip hy).1 with q | q
    · exact .inl q
    · exact .inr ⟨q, PySem.W.cellsFrom_some _ _ _ (.inl q)⟩
  refine codeAny_call_function hr.depth (KX _ _ lk) rfl S.co S.gen rfl (PySem.W.codeRec_of KX hcd) (hb _ _ _ _ ?_)
  refine wpAny_newFunctionEnv_cells S.kind hkind fun env hen s1 x => ?_
  subst hen
  refine ⟨lim.keeps x.toInCall.keep, codeAny_func ?_⟩
  obtain ⟨t, ht, hq⟩ := hbody A outer s H vs Q hr.hd hsp
  have I0 : Inv (cxOf CX0 P w K mg base N qual scope f cdv { A with handled := none } outer s H E0) [] (start N vs) H s1 :=
    inv_start S rfl ⟨e0.frames, e0.mod, e0.bs, e0.bsz, e0.funs, e0.frf, e0.hok, e0.bare⟩ hl r x
  have I : Inv (cxH P w K mg base N qual scope f cdv A outer s H e oe) [] (start N vs) H s1 := by
    refine ⟨⟨I0.ok.mod, I0.ok.kind, I0.ok.glob, I0.ok.blt, I0.ok.above, I0.ok.inj, I0.ok.has, I0.ok.cab, (fun z => absurd z Bool.false_ne_true), Around.frames_deeper e0.frames, I0.ok.stk, I0.ok.exf, I0.ok.bs, I0.ok.bsz, I0.ok.noex, I0.ok.exfs, I0.ok.funs, I0.ok.frf⟩,
      I0.os, I0.bare, I0.base, I0.loc, I0.cell, I0.free, I0.freeC, fun p hp => ?_, I0.hok, I0.len⟩
    have e1 : p = (e, oe) := by
      rcases List.mem_append.mp hp with z | z
      · exact List.mem_singleton.mp z
      · cases z
    subst e1
    exact ⟨x.toInCall.keep _ _ he, hn, Nat.ne_of_lt (Heap.lt_size he), hne, hnc⟩
  refine wpAny_mono (ht [] s1 (start N vs) H _ I hq) (fun fl s' hs => ?_) fun e s' hs => False.elim hs
  have fin : ∀ {σ' : St} {H' : Hp} {v : V} {u : Value}, Inv (cxH P w K mg base N qual scope f cdv A outer s H e oe) [] σ' H' s' → RelV v u → Q v H' → CE outer P w H s Q u s' :=
    fun {σ' H' v u} J rv q => ⟨v, H', J.os, J.bare, J.base, J.hok, rv, q⟩
  cases fl with
  | ret u =>
    obtain ⟨v, σ', H', J, rv, q⟩ := hs
    exact fin J rv q
  | next =>
    obtain ⟨σ', H', J, q⟩ := hs
    exact fin (v := V.non) (u := Value.none) J rfl q
  | brk =>
    obtain ⟨_, _, _, q⟩ := hs
    exact False.elim q
  | cont =>
    obtain ⟨_, _, _, q⟩ := hs
    exact False.elim q
section
variable {X : Cx} {k : Nat} {f : Addr} {fd : FuncData} {ps : List Str} {sp : Sp} {x : Str} {p pos : Pos} {ex : Expr} {es : List Expr} {t : TA} {e : Addr} {oe : Obj}
/-- f(..) while e is handled -/
theorem pe_callH (F : FnOkH X.prog X.w X.K X.mg X.base e oe k f fd ps sp) (hr : RoomH k X.A e) (hp : (e, oe) ∈ X.pn) (hgd : e ∉ frs X.stack) (hg : Gl X x) (hm : X.mg x = some (.ref f)) (hk : PySem.W.keepIn X.K (.ref f) = true) (hb : Binds X.K fd ps [])
    (ha : PA X (ex :: es) t) (hdb : (x == ("__debug__" : Str)) = false := by decide) (he : starEach (ex :: es) X.env = (false, eval ex X.env) :: starEach es X.env := by rfl) (hpl : (backTo pos (starEach es X.env)).any (·.1) = false := by rfl) :
    PE X (.Call (.Name x p) (ex :: es) [] pos) (tCall sp [] E0 t) := by
  intro pins s σ H Q I h
  refine wpAny_Call_Name_kw (ld_glob I hg hm ?_ hdb)
  refine PySem.W.callWith_K (h₀ := X.base) I.ok.mod.kin hk (thn (ha pos pins s σ H _ I h) fun us s1 ⟨vs, H1, I1, r, q⟩ => ⟨I1.kIn, ?_⟩) he hpl
  have q' : sp vs H1 Q E0 := by simpa using q
  have hl : us.length = ps.length := by rw [← r.length]; exact F.len _ _ _ _ q'
  obtain ⟨e1, e2, e3, e4, e5⟩ := I1.pin (e, oe) (List.mem_append_left _ hp)
  have hb' := hb s1 us I1.kIn (by simpa using hl)
  rw [List.append_nil] at hb'
  refine wpAny_call (codeAny_mono (F.run X.A X.stack s1 H1 ⟨us, []⟩ us vs Q hr I1.env0 e1 e2 hgd e5 hb' r q') fun r s' hq => ?_)
  cases r with
  | error e => exact False.elim hq
  | ok fl =>
    cases fl with
    | ret u => exact I1.after hq
    | next => exact False.elim hq
    | brk => exact False.elim hq
    | cont => exact False.elim hq
end
end L2

namespace L2
open PySem PySem.Spec PyProof.Rows

/-! ## try .. except X as e, where the suite returns -/
structure Air (P : Program) (w : World) (outer : List Env) (H : Hp) (s : Shared) (E : XK) (B : Heap) (x : Addr) (c : Value) (H' : Hp) (fl : Value) (s' : Shared) : Prop where
  fly : Fly B outer x c fl s'.heap
  os : s'.os = s.os
  bare : AllBare s'.gens
  un : Un (frs outer) [] H H' s.heap s'.heap
  hok : HOk P w H' s'.heap
  nx : H' x = none
  trk : ∀ b o, H' b = some o → ∃ ob, B.get? b = some ob
  old : ∀ b o, s.heap.get? b = some o → b ∉ frs outer → ∃ ob, B.get? b = some ob
  e : E c none H'
theorem Air.move {P : Program} {w : World} {outer : List Env} {H : Hp} {s : Shared} {E : XK} {B : Heap} {x : Addr} {c : Value} {H' : Hp} {fl fl' : Value} {s' : Shared} {h' : Heap} (a : Air P w outer H s E B x c H' fl s') (F : Fly B outer x c fl' h') (up : s'.heap.UpToSlots h') :
    Air P w outer H s E B x c H' fl' { s' with heap := h' } :=
  ⟨F, a.os, a.bare, fly_un a.un a.fly.stay F.stay up a.old (fly_data a.fly.frs), fly_hok a.hok a.fly.stay F.stay a.trk, a.nx, a.trk, a.old, a.e⟩
/-- within the try: pins at hand, an exception flies on to the handlers -/
def cxTry (X : Cx) (E : XK) (pn : List (Addr × Obj)) : Cx :=
  { X with pn := pn, xe := fun e s' => ∃ pins σ H s, Inv { X with pn := pn, xe := fun _ _ => False } pins σ H s ∧ CX1 X.prog X.w X.stack H s E e s' }
/-- within the suite: the exception at x, with the record ox, is handled -/
def cxHand (X : Cx) (x : Addr) (ox : Obj) (pn : List (Addr × Obj)) : Cx :=
  { X with A := X.A.mark (some (.ref x)), calm := false, pn := (x, ox) :: pn, xe := fun _ _ => False }
section
variable {X : Cx} {pins : List (Addr × Obj)} {σ : St} {H : Hp} {s : Shared}
theorem pass_try {E : XK} {pn : List (Addr × Obj)} : Passes (CX1 X.prog X.w) (cxTry X E pn) E := fun pins σ H s e s' I h =>
  ⟨pins, σ, H, s, ⟨⟨I.ok.mod, I.ok.kind, I.ok.glob, I.ok.blt, I.ok.above, I.ok.inj, I.ok.has, I.ok.cab, I.ok.hd, I.ok.frames, I.ok.stk, I.ok.exf, I.ok.bs, I.ok.bsz, I.ok.noex, I.ok.exfs, I.ok.funs, I.ok.frf⟩, I.os, I.bare, I.base, I.loc, I.cell, I.free, I.freeC, I.pin, I.hok, I.len⟩, h⟩
/-- another A, calm, pins, wish -/
theorem Inv.other {A : Around} {cm : Bool} {pn : List (Addr × Obj)} {xe : Value → Shared → Prop} {pins' : List (Addr × Obj)} (I : Inv X pins σ H s) (hf : A.frames = X.A.frames) (hd : cm = true → A.handled = none)
    (hp : ∀ p ∈ pn ++ pins', s.heap.get? p.1 = some p.2 ∧ H p.1 = none ∧ p.1 ≠ X.env.locals ∧ p.1 ∉ X.fs ∧ ∀ v, p.2.data ≠ .cell v) : Inv { X with A := A, calm := cm, pn := pn, xe := xe } pins' σ H s :=
  ⟨⟨I.ok.mod, I.ok.kind, I.ok.glob, I.ok.blt, I.ok.above, I.ok.inj, I.ok.has, I.ok.cab, hd, hf.trans I.ok.frames, I.ok.stk, I.ok.exf, I.ok.bs, I.ok.bsz, I.ok.noex, I.ok.exfs, I.ok.funs, I.ok.frf⟩, I.os, I.bare, I.base, I.loc, I.cell, I.free, I.freeC, hp, I.hok, I.len⟩
/-- the frame's names are another lot: nothing is known of them -/
theorem Inv.lost {h' : Heap} {m' : Str → Option Value} {t' : Nat} (I : Inv X pins σ H s) (hn' : h'.Ns X.env.locals m') (hs : Heap.SameBut X.env.locals s.heap h') : Inv X pins (List.replicate X.N.length none) H { s with heap := h', toks := t' } := by
  obtain ⟨m, hn, hl⟩ := id I.loc
  obtain ⟨oL, _, _, hoL, _⟩ := id hn
  refine ⟨I.ok, I.os, I.bare, ⟨fun b o e n hb hx => ?_, fun b o e n hb hx => ?_, I.base.free, fun b o e hx => ?_, I.base.tups, I.base.frzs, I.base.tbls⟩, ⟨m', hn', fun j y v' e1 e2 e3 => ?_⟩, fun y c e => ?_, I.free, I.freeC, fun p hp => ?_, fun b ob e => ?_, by simp⟩
  · exact (hs.2 b (Nat.ne_of_lt (Nat.lt_of_lt_of_le (Heap.lt_size e) I.ok.above))).trans (I.base.keep b o e n hb hx)
  · obtain ⟨sl, e1⟩ := I.base.slot b o e n hb hx
    exact ⟨sl, (hs.2 b (Nat.ne_of_lt (Nat.lt_of_lt_of_le (Heap.lt_size e) I.ok.above))).trans e1⟩
  · obtain ⟨o', e1⟩ := I.base.there b o e hx
    exact ⟨o', (hs.2 b (Nat.ne_of_lt (Nat.lt_of_lt_of_le (Heap.lt_size e) I.ok.above))).trans e1⟩
  · rw [List.getElem?_replicate] at e2
    split at e2 <;> cases e2
  · obtain ⟨w', z⟩ := I.cell y c e
    exact ⟨w', z.sameBut hs (I.cne y c e)⟩
  · obtain ⟨e, n, ne, nf, d⟩ := I.pin p hp
    exact ⟨(hs.2 p.1 ne).trans e, n, ne, nf, d⟩
  · refine (I.hok b ob e).stay (fun c w' hc q => (hs.2 c ?_).trans q) (fun _ q => q) fun _ _ q => q
    intro hcl
    rw [hcl] at hc
    rcases hc with z | z
    · rw [← z, I.free] at e; cases e
    · rw [I.free] at z; cases z
/-- tb: the body, by the wish; th: the suite, by the exception and its class -/
def tTry (X : Cx) (CE : Value) (i : Nat) (tb : XK → TS) (th : Addr → Value → TS) : TS := fun D σ H => ∃ E : XK, tb E D σ H ∧
  ∀ c H' x, E c none H' → H' x = none → PySem.W.exmOne X.K c CE = some true ∧ th x c { nx := fun _ _ => False, rt := D.rt, bk := fun _ _ => False, ct := fun _ _ => False } ((List.replicate X.N.length none).set i (some (.ref x))) H'
theorem ps_try {body : List Stmt} {cn n : Str} {np hpos pos : Pos} {b₀ : Stmt} {suite : List Stmt} {i : Nat} {CE : Value} {tb : XK → TS} {th : Addr → Value → TS} (hst : X.stack = X.env :: X.outer) (hfr : X.env.frame = some X.env.locals) (hN : X.N.Nodup) (hi : X.N[i]? = some n)
    (hl : X.env.scope.names.lookup n = some .local) (hg : Gl X cn) (hm : X.mg cn = some CE)
    (hb : ∀ E pn, PSs (cxTry X E pn) body (tb E))
    (hh : ∀ x c ox pn vs, ox.cls = c ∧ ox.dict = none → ox.data = .fields vs → vs[2]? = some .none → x ∉ frs X.stack → PSs (cxHand X x ox pn) (b₀ :: suite) (th x c))
    (hd : (cn == ("__debug__" : Str)) = false := by decide) :
    PS X (.Try body [.ExceptHandler (some (.Name cn np)) (some n) (b₀ :: suite) hpos] [] [] pos) (tTry X CE i tb th) := by
  intro pins s σ H D I h
  obtain ⟨E, hbd, hex⟩ := h
  have I1 : Inv (cxTry X E (X.pn ++ pins)) [] σ H s := I.other rfl I.ok.hd (by rw [List.append_nil]; exact I.pin)
  have back : ∀ {σ' H' s'}, Inv (cxTry X E (X.pn ++ pins)) [] σ' H' s' → Inv X pins σ' H' s' := fun {σ' H' s'} J =>
    Inv.other (X := cxTry X E (X.pn ++ pins)) (A := X.A) (cm := X.calm) (pn := X.pn) (xe := X.xe) J rfl I.ok.hd fun p hp => J.pin p (List.mem_append_left _ hp)
  refine wpAny_Try_except (wpAny_mono (hb E (X.pn ++ pins) [] s σ H D I1 hbd) (fun f s1 q => ?_) fun e s1 q => ?_)
  · cases f with
    | next => obtain ⟨σ', H', J, q⟩ := q; exact wpAny_execs_nil ⟨σ', H', back J, q⟩
    | ret u => obtain ⟨v, σ', H', J, r, q⟩ := q; exact ⟨v, σ', H', back J, r, q⟩
    | brk => obtain ⟨σ', H', J, q⟩ := q; exact ⟨σ', H', back J, q⟩
    | cont => obtain ⟨σ', H', J, q⟩ := q; exact ⟨σ', H', back J, q⟩
  · obtain ⟨pins', σ', H1, s0, J, x, c, B, H2, rfl, F, ho, hgn, u, ok, nx, inB, old, q⟩ := q
    have a0 : Air X.prog X.w (X.env :: X.outer) H1 s0 E B x c H2 .none s1 := hst ▸ ⟨F, ho, hgn, u, ok, nx, inB, old, q⟩
    have hfrm : X.A.frames = some (X.env :: X.outer) := hst ▸ I.ok.frames
    refine fly_note hfrm hfr a0.fly fun h1 F1 u1 => ?_
    have a1 := a0.move F1 u1
    refine fly_land a1.fly fun h2 F2 u2 => ?_
    have a2 := a1.move F2 u2
    obtain ⟨hE, hth⟩ := hex c H2 x q nx
    have inv2 : ∀ {fl s'}, Air X.prog X.w (X.env :: X.outer) H1 s0 E B x c H2 fl s' → Inv { X with pn := X.pn ++ pins, xe := fun _ _ => False } pins' σ' H2 s' := fun {fl s'} a =>
      J.call' a.os (show Un (frs X.stack) [] H1 H2 s0.heap s'.heap by rw [hst]; exact a.un) a.hok a.bare fun b z => absurd z (by simp)
    have J2 := inv2 a2
    have xo : x ∉ frs X.stack := fun z => by
      rw [hst] at z
      obtain ⟨oe, vs, _, _, _, h1, _, h2, _⟩ := a2.fly.obj
      exact fly_data a2.fly.frs x z oe h1 vs h2
    have xl : x ≠ X.env.locals := fun z => xo (by rw [hst]; exact List.mem_filterMap.mpr ⟨X.env, List.mem_cons_self, by rw [z]; exact hfr⟩)
    have xf : x ∉ X.fs := fun z => xo (by
      rw [hst]
      obtain ⟨y, hy, e⟩ := List.mem_filterMap.mp z
      exact List.mem_filterMap.mpr ⟨y, List.mem_cons_of_mem _ hy, e⟩)
    have J2m : Inv { X with A := X.A.mark (some (.ref x)), calm := false, pn := [], xe := fun _ _ => False } [] σ' H2 { s1 with heap := h2 } := J2.other rfl (fun z => absurd z Bool.false_ne_true) fun p hp => absurd hp (by simp)
    refine wpAny_handleBy_cons (codeAny_handlers_test (ld_glob (X := { X with A := X.A.mark (some (.ref x)), calm := false, pn := [], xe := fun _ _ => False }) J2m hg hm ?_ hd)) (by intro q; cases q)
    have LT : PySem.W.Looks (model X.prog X.w) h2 (typeOf (.ref x)) c := by
      obtain ⟨oe, vs, _, _, _, h1, hc, _⟩ := a2.fly.obj
      rw [← hc.1]
      exact (PySem.W.Looks.ld h1).andThen .now
    refine (PySem.W.exm_one (M := model X.prog X.w) J2.kIn LT hE).here ?_
    dsimp only
    rw [if_pos rfl]
    refine codeAny_handlers_suite_as ?_
    refine fly_land a2.fly fun h3 F3 u3 => ?_
    have a3 := a2.move F3 u3
    have J3 := inv2 a3
    obtain ⟨ox, vs, T, oT, ts, hx, hc, hdx, h1x, h2x, nT, tx, hT, dT, h3x⟩ := a3.fly.obj
    have K3 : Inv (cxHand X x ox (X.pn ++ pins)) [] σ' H2 { s1 with heap := h3 } := J3.other (A := X.A.mark (some (.ref x))) (cm := false) (pn := (x, ox) :: (X.pn ++ pins)) (xe := fun _ _ => False) rfl (fun z => absurd z Bool.false_ne_true) fun p hp => by
      rw [List.append_nil] at hp
      rcases List.mem_cons.mp hp with z | z
      · subst z; exact ⟨hx, nx, xl, xf, fun v z => by rw [hdx] at z; cases z⟩
      · exact J3.pin p (List.mem_append_left _ z)
    have K3w := K3.weak (σ' := List.replicate X.N.length none) (by rw [List.length_replicate]; exact K3.len.symm) fun i v e => by
      rw [List.getElem?_replicate] at e
      split at e <;> cases e
    refine store_ok (X := cxHand X x ox (X.pn ++ pins)) (v := V.ref x) K3w hN hi (.inl hl) rfl (fun s4 K4 => ?_) (.inr hl)
    refine wpAny_mono (hh x c ox (X.pn ++ pins) vs hc hdx h2x xo [] s4 _ H2 _ K4 hth) (fun f s5 q5 => ?_) fun _ _ z => False.elim z
    cases f with
    | next => obtain ⟨_, _, _, z⟩ := q5; exact False.elim z
    | brk => obtain ⟨_, _, _, z⟩ := q5; exact False.elim z
    | cont => obtain ⟨_, _, _, z⟩ := q5; exact False.elim z
    | ret u5 =>
      obtain ⟨v, σ5, H5, K5, r5, q5⟩ := q5
      obtain ⟨m5, hn5, _⟩ := id K5.loc
      refine wpAny_nameGoes (env := X.env) (show X.env.kindOf n = some .local from hl) hn5 (by rw [I.ok.kind]; rfl) fun h6 m6 hn6 sb6 => ?_
      have K6 := K5.lost (t' := s5.toks + 1) hn6 sb6
      refine ⟨v, List.replicate X.N.length none, H5, ?_, r5, q5⟩
      exact Inv.other (X := cxHand X x ox (X.pn ++ pins)) (A := X.A) (cm := X.calm) (pn := X.pn) (xe := X.xe) K6 rfl I.ok.hd fun p hp => K6.pin p (List.mem_append_left _ (List.mem_cons_of_mem _ hp))
end
end L2

namespace L2
open PySem PySem.Spec PyProof.Rows

/-! ## Own error classes -/
structure ErrCls (K : PySem.W.Frag) (D : Addr) : Prop where
  ga : PySem.W.findIn K (.ref D) "__getattribute__" = some (some (.builtin "BaseException.__getattribute__"))
  gh : PySem.W.findIn K (.ref D) "__getattr__" = some none
  hc : (PySem.W.clsIn K D).isSome = true
  ha : PySem.W.findIn K (.ref D) "__class__" = some (some (.builtin "object.__class__"))
  hn : PySem.W.specialIn K (.builtin "object.__class__") "__get__" = some (some (.builtin "getset_descriptor.__get__"))
  ht : PySem.W.takesIn K (.builtin "object.__class__") = some true
  hm : PySem.W.mroIn K D (.type "object") = some true
  hb : PySem.W.mroIn K D (.type "BaseException") = some true
theorem find_cls {K : PySem.W.Frag} {D : Addr} (E : ErrCls K D) (od : Option Obj) : PySem.W.findObj K D od "__class__" = some (.bind (.builtin "getset_descriptor.__get__") (.builtin "object.__class__")) := by
  obtain ⟨cd, hc⟩ := Option.isSome_iff_exists.mp E.hc
  unfold PySem.W.findObj
  rw [hc]
  simp [E.ha, E.hn, E.ht]
section
variable {prog : Program} {w : World} {A : Around} {E : Value → Shared → Prop} {s : Shared} {K : PySem.W.Frag} {x D : Addr} {ox : Obj}
theorem exc_check {M : Model} {nameV : Value} {Q : Unit → Shared → Prop} (Er : ErrCls K D) (X : K.In s.heap) (I : PySem.W.InstAt s.heap x ox D none) (hq : Q () s) :
    wpAny M A (checkBuiltinCall "BaseException.__getattribute__" ⟨[.ref x, nameV], []⟩) Q E s := by
  have hk : builtinKind "BaseException.__getattribute__" = some .slot := by decide +kernel
  have hsplit : splitId "BaseException.__getattribute__" = some ("BaseException", "__getattribute__") := by decide +kernel
  have ha := F.args_bexc_ga (.ref x) nameV
  have L0 := I.type (M := M)
  have L1 := PySem.W.looks_mroIn (M := M) X Er.hb
  have LI : PySem.W.Looks M s.heap (isInstance (.ref x) (.type "BaseException")) true := L0.andThen L1
  obtain ⟨h, g, d, t, os⟩ := s
  simp only [checkBuiltinCall, hk, hsplit]
  refine wpAny_bind (LI.at ?_)
  repeat (any_goals (first | assumption | wp_step))
theorem exc_entry {tk : Tok} {Q : Fin → Shared → Prop} (Er : ErrCls K D) (X : K.In s.heap) (I : PySem.W.InstAt s.heap x ox D none) (hq : Q (.done (.ret (.ref D))) s) :
    wpAny (model prog w) A (Builtin.«object.__getattribute__» ⟨[.ref x, .str "__class__" tk], []⟩) Q E s := by
  obtain ⟨h, g, d, t, os⟩ := s
  have L0 := I.type (M := model prog w)
  have L1 := PySem.W.looks_find (M := model prog w) X I (find_cls Er none)
  unfold Builtin.«object.__getattribute__»
  refine wpAny_bind (wpAny_of_eq (a := (.ref x, [.str "__class__" tk])) (by rfl) ?_)
  dsimp only
  refine wpAny_bind (wpAny_pure (wpAny_bind (L0.at (wpAny_bind (L1.at ?_)))))
  show wpAny _ _ (Builtin.ObjectAttr.bindTo (.builtin "getset_descriptor.__get__") (.builtin "object.__class__") (.ref x) (.ref D)) _ _ _
  unfold Builtin.ObjectAttr.bindTo
  dsimp only
  refine wpAny_bind (wpAny_holding (wpAny_call (PySem.W.class_get (s := ⟨h, g, d, t, os⟩) (ox := ox) (od := none) X I Er.hm ?_)))
  exact wpAny_pure hq
theorem exc_call {tk : Tok} {R : Result → Shared → Prop} (Er : ErrCls K D) (X : K.In s.heap) (I : PySem.W.InstAt s.heap x ox D none) (hq : R (.ok (.ret (.ref D))) s) :
    codeAny (model prog w) A (.call (.builtin "BaseException.__getattribute__") ⟨[.ref x, .str "__class__" tk], []⟩) R s :=
  codeAny_call_builtin F.excAttr_ValueError.ga.plain F.entry_bexc_ga (exc_check Er X I (exc_entry Er X I hq))
theorem exc_class {Q : Option Value → Shared → Prop} (Er : ErrCls K D) (X : K.In s.heap) (I : PySem.W.InstAt s.heap x ox D none) (hq : Q (some (.ref D)) { s with toks := s.toks + 1 }) : wpAny (model prog w) A (getAttr? (.ref x) "__class__") Q E s := by
  obtain ⟨h, g, d, t, os⟩ := s
  have L0 := I.type (M := model prog w)
  have L1 := PySem.W.looks_findIn (M := model prog w) X Er.ga
  have L2 := PySem.W.looks_findIn (M := model prog w) X Er.gh
  have f3 := F.excAttr_ValueError.ga.bind (.ref x)
  unfold getAttr? getAttrBy? getAttrBy
  refine wpAny_bind (wpAny_mkText (wpAny_bind (wpAny_attempt (wpAny_holding (wpAny_bind (L0.at (wpAny_bind (L1.at ?_))))))))
  have hx2 : (onTheHeap (Value.ref D) && Value.builtin "BaseException.__getattribute__" == Value.builtin "object.__getattribute__") = false := by
    have hx1 : (Value.builtin "BaseException.__getattribute__" == Value.builtin "object.__getattribute__") = false := by decide +kernel
    rw [hx1, Bool.and_false]
  dsimp only
  rw [hx2, if_neg Bool.false_ne_true]
  unfold getAttrByItsOwn hookBefore
  refine wpAny_bind ?_
  rw [if_pos (by rfl)]
  refine L2.at ?_
  refine wpAny_bind (wpAny_attempt (wpAny_holding ?_))
  unfold callGetattribute
  rw [if_neg (by decide)]
  unfold boundAndCalled
  refine wpAny_bind ?_
  rw [f3]
  refine wpAny_pure ?_
  refine wpAny_call (exc_call (s := ⟨h, g, d, t + 1, os⟩) Er X I ?_)
  exact PySem.W.handed_on rfl (wpAny_pure hq)
end
theorem isType_cls {K : PySem.W.Frag} {D : Addr} {M : Model} {h : Heap} (X : K.In h) (hc : (PySem.W.clsIn K D).isSome = true) : PySem.W.Looks M h (isType (.ref D)) true := by
  obtain ⟨cd, hc⟩ := Option.isSome_iff_exists.mp hc
  unfold PySem.W.clsIn at hc
  split at hc
  · next ho =>
    intro A Q E s k q
    unfold isType loadHead
    exact wpAny_bind (wpAny_loadPart (k _ _ (X _ _ ho)) (wpAny_pure q))
  · cases hc
theorem kitx_exc {K : PySem.W.Frag} {x D : Addr} {ox : Obj} (Er : ErrCls K D) : PySem.W.KitX K (.ref x) (.ref D) (fun h => PySem.W.InstAt h x ox D none) where
  ty := fun _ _ _ I => I.type
  it := fun _ _ X _ => isType_cls X Er.hc
  ne := fun h tp dd its n sl X htp => by
    obtain ⟨cd, hc⟩ := Option.isSome_iff_exists.mp Er.hc
    refine Bool.eq_false_iff.mpr fun q => ?_
    have e : D = tp := Value.ref.inj (beq_iff_eq.mp q)
    subst e
    unfold PySem.W.clsIn at hc
    split at hc
    · next ho =>
      have z := (X _ _ ho).symm.trans htp
      cases z
    · cases hc
  ca := fun X I k => exc_class Er X I k
section
variable {X : Cx}
/-- isinstance of the exception that is handled, by an own class -/
theorem call_isx : CallR X (.builtin "isinstance") (fun xs H Q => ∃ (e C D : Addr) (oe : Obj) (b : Bool), xs = [.ref e, .ref C] ∧ ((e, oe) ∈ X.pn ∧ (oe.cls = .ref D ∧ oe.dict = none) ∧ ∃ vs, oe.data = .fields vs) ∧ ErrCls X.K D ∧ PySem.W.kitOne X.K (.ref D) (.ref C) = some b ∧ Q (.bl b) H) := by
  intro pins s σ H xs us Q I r h
  obtain ⟨e, C, D, oe, b, rfl, ⟨hp, ⟨hc, hd⟩, vs, hv⟩, Er, hk, q⟩ := h
  obtain ⟨u, u', rfl, ru, ru'⟩ := vals2 r
  cases (show u = Value.ref e from ru)
  cases (show u' = Value.ref C from ru')
  have ia : PySem.W.InstAt s.heap e oe D none := ⟨(I.pin (e, oe) (List.mem_append_left _ hp)).1, hc, by unfold PySem.W.notCls; rw [hv], by rw [hd]; trivial⟩
  exact PySem.W.kia_one (kitx_exc (ox := oe) Er) I.kIn ia hk (fun z => nomatch z) fun tk => ⟨.bl b, H, I.tok _, rfl, q⟩
theorem PS.nox {st : Stmt} {t : TS} (h : PS X.nox st t) : PS X st t := fun pins s σ H D I hw =>
  wpAny_mono (h pins s σ H D (I.wish _) hw) (fun _ _ q => q.unwish) fun _ _ z => False.elim z
end
/-! ### raise -/
/-- an own class as raise wants it -/
structure Err (K : PySem.W.Frag) (mg : Str → Option Value) (x : Str) (C : Addr) : Prop where
  bound : mg x = some (.ref C)
  exc : PySem.W.excIn K C [.type "ValueError", .type "Exception", .type "BaseException", .type "object"] "ValueError.__new__" = true
theorem err_obj {K : PySem.W.Frag} {h : Heap} {C : Addr} {bmB : List Value} {newId : String} (X : K.In h) (q : PySem.W.excIn K C bmB newId = true) :
    ∃ bm N nm q bs hdct sn sub ab col dd k0 k1 k2 k3 k5 mN, h.get? C = some (excClassObj nm q C N bs bm hdct sn sub ab col dd k0 k1 k2 k3 k5 newId) ∧ h.Ns N mN ∧ mN "__init__" = none ∧ OwnTail h bmB bm := by
  unfold PySem.W.excIn at q
  split at q
  · next dd cd sl ho =>
    split at q
    · next C' bm k0 k1 k2 k3 n k5 hm hs =>
      simp only [Bool.and_eq_true, beq_iff_eq, Bool.not_eq_true'] at q
      obtain ⟨⟨⟨⟨⟨r1, r2⟩, hdel⟩, ht⟩, hok⟩, hni⟩ := q
      subst r1 r2
      cases cd with
      | mk nm bs mro ns qn hd sn sub ab col del =>
        dsimp only at hm hdel hok hni
        subst hm hdel
        cases sl with
        | mk l =>
          simp only at hs
          subst hs
          exact ⟨bm, ns, nm, qn, bs, hd, sn, sub, ab, col, dd, k0, k1, k2, k3, k5, _, X _ _ ho, .of_isNs (PySem.W.isNs_of_in X hok), PySem.W.nsMap_none_of_in X hok hni, PySem.W.tail_of_in X ht⟩
    · cases q
  · cases q
def tRaise (E : XK) (C : Addr) (ta : TA) : TS := fun _ σ H => ta σ H fun vs H1 => vs.length ≤ sizeLine ∧ E (.ref C) none H1
section
variable {P : Program} {w : World} {K : PySem.W.Frag} {mg : Str → Option Value} {base : Heap} {N : List Str} {qual : Str} {scope : Scope} {f : Addr} {cd : Value} {A : Around} {outer : List Env} {s₀ : Shared} {H₀ : Hp} {E : XK}
theorem ps_raise {x : Str} {C : Addr} {np cpos pos : Pos} {e : Expr} {es : List Expr} {t : TA} (O : Err K mg x C) (hg : Gl (cxOf (CX1 P w) P w K mg base N qual scope f cd A outer s₀ H₀ E) x)
    (ha : PA (cxOf (CX1 P w) P w K mg base N qual scope f cd A outer s₀ H₀ E) (e :: es) t) (hd : (x == ("__debug__" : Str)) = false := by decide)
    (he : starEach (e :: es) (envOfC qual scope s₀.heap.objs.size f cd) = (false, eval e (envOfC qual scope s₀.heap.objs.size f cd)) :: starEach es (envOfC qual scope s₀.heap.objs.size f cd) := by rfl)
    (hpl : (backTo cpos (starEach es (envOfC qual scope s₀.heap.objs.size f cd))).any (·.1) = false := by rfl) :
    PS (cxOf (CX1 P w) P w K mg base N qual scope f cd A outer s₀ H₀ E) (.Raise (some (.Call (.Name x np) (e :: es) [] cpos)) none pos) (tRaise E C t) := by
  intro pins s σ H D I h
  obtain ⟨bm, Nn, nm, q, bs, hdct, sn, sub, ab, col, dd, k0, k1, k2, k3, k5, mN, hC, hN, hni, T⟩ := err_obj I.ok.mod.kin O.exc
  refine wpAny_Raise_call_subT (C := C) (nm := nm) (q := q) (N := Nn) (bs := bs) (bm := bm) (hdct := hdct) (sn := sn) (sub := sub) (ab := ab) (col := col) (dd := dd) (k0 := k0) (k1 := k1) (k2 := k2) (k3 := k3) (k5 := k5) (env := envOfC qual scope s₀.heap.objs.size f cd)
    F.excBase_ValueError (mN := mN) (T.hasType F.excBase_ValueError.hasBase) (I.ok.hd rfl) ?_ hni (ld_glob I hg O.bound ⟨rfl, ?_⟩ hd)
  · rw [he]
    show (false || (backTo cpos (starEach es (envOfC qual scope s₀.heap.objs.size f cd))).any (·.1)) = false
    rw [hpl]; rfl
  · have g := ha cpos pins s σ H _ I h
    change wpAny _ _ (spliced (backTo cpos (starEach (e :: es) (envOfC qual scope s₀.heap.objs.size f cd)))) _ _ s at g
    rw [he] at g ⊢
    refine Calls.evalArgs_plain (thn g fun us s2 ⟨vs, H1, I1, r, hl, q⟩ => ?_)
    exact ⟨rfl, by rw [← r.length]; exact hl, I1.bk _ _ hC, hN.keeps I1.bk, T.keeps I1.bk, fun h' x hx => raise_out I1 hx rfl I1.bare q⟩
end
/-! ### defs and methods whose callers take their exceptions -/
structure Callee1 (P : Program) (w : World) (K : PySem.W.Frag) (mg : Str → Option Value) (base : Heap) (x : Str) (k : Nat) (ps : List Str) (sp : Sp) : Prop where
  ex : ∃ f fd, FnOk P w K mg base (CX1 P w) k f fd ps sp ∧ mg x = some (.ref f) ∧ PySem.W.keepIn K (.ref f) = true ∧ Binds K fd ps []
/-- a method of the class at C, as the top has left it -/
structure MethAt (K : PySem.W.Frag) (C : Addr) (cn m : Str) (st : Stmt) : Prop where
  ex : ∃ f fd, Fun K m (cn ++ Str.ofString "." ++ m) st f fd ∧ Meth K C m f
structure Method (P : Program) (w : World) (K : PySem.W.Frag) (mg : Str → Option Value) (base : Heap) (C : Addr) (m : Str) (CX : CXT) (k : Nat) (ps : List Str) (sp : Sp) : Prop where
  ex : ∃ f fd, FnOk P w K mg base CX k f fd ps sp ∧ Meth K C m f ∧ Binds K fd ps []
section
variable {P : Program} {w : World} {K : PySem.W.Frag} {mg : Str → Option Value} {base : Heap}
theorem Fun.ok1 {x qual : Str} {st : Stmt} {f : Addr} {fd : FuncData} {N ps : List Str} {k : Nat} {sp : Sp} (F : Fun K x qual st f fd) (S : FnScope N ps (defScope st)) (len : ∀ vs H Q E, sp vs H Q E → vs.length = ps.length)
    (hbody : ∀ (cdv : Value) (A : Around) (outer : List Env) (s : Shared) (H : Hp) (vs : List V) (Q : VK) (E : XK), Room k (A.deeper (envOfC qual (defScope st) s.heap.objs.size f cdv)) → sp vs H Q E →
      ∃ t, PSs (cxOf (CX1 P w) P w K mg base N qual (defScope st) f cdv A outer s H E) (defBody st) t ∧ t { nx := fun _ H' => Q .non H', rt := Q } (start N vs) H) : FnOk P w K mg base (CX1 P w) (k + 1) f fd ps sp := by
  obtain ⟨oc, od, kV, doc, pm, an, cdv, ct, osl, rfl, lk, hcd⟩ := F.ex
  exact fn_of lk hcd S len fun A outer s H vs Q E hr hsp => hbody cdv A outer s H vs Q E hr hsp
theorem DefAt.callee1 {x : Str} {st : Stmt} {N ps : List Str} {k : Nat} {sp : Sp} (D : DefAt K mg x st) (S : FnScope N ps (defScope st))
    (hb : ∀ (kV doc pm : Value) (an : Option Addr) (cdv ct : Value) (us : List Value), us.length = ps.length → bindArgs (PySem.W.fnOf x x (defArgs st) (defBody st) (defScope st) .none kV doc pm an cdv ct) ⟨us, []⟩ = pure (ps.zip us))
    (len : ∀ vs H Q E, sp vs H Q E → vs.length = ps.length)
    (hbody : ∀ (f : Addr) (cdv : Value) (A : Around) (outer : List Env) (s : Shared) (H : Hp) (vs : List V) (Q : VK) (E : XK), Room k (A.deeper (envOfC x (defScope st) s.heap.objs.size f cdv)) → sp vs H Q E →
      ∃ t, PSs (cxOf (CX1 P w) P w K mg base N x (defScope st) f cdv A outer s H E) (defBody st) t ∧ t { nx := fun _ H' => Q .non H', rt := Q } (start N vs) H) : Callee1 P w K mg base x (k + 1) ps sp := by
  obtain ⟨f, fd, F, m⟩ := D.ex
  exact ⟨f, fd, F.ok1 S len (fun cdv A outer s H vs Q E hr h => hbody f cdv A outer s H vs Q E hr h), m, F.kp, F.binds hb⟩
theorem MethAt.meth1 {cn m : Str} {C : Addr} {st : Stmt} {N ps : List Str} {k : Nat} {sp : Sp} (D : MethAt K C cn m st) (S : FnScope N ps (defScope st))
    (hb : ∀ (kV doc pm : Value) (an : Option Addr) (cdv ct : Value) (us : List Value), us.length = ps.length → bindArgs (PySem.W.fnOf m (cn ++ Str.ofString "." ++ m) (defArgs st) (defBody st) (defScope st) .none kV doc pm an cdv ct) ⟨us, []⟩ = pure (ps.zip us))
    (len : ∀ vs H Q E, sp vs H Q E → vs.length = ps.length)
    (hbody : ∀ (f : Addr) (cdv : Value) (A : Around) (outer : List Env) (s : Shared) (H : Hp) (vs : List V) (Q : VK) (E : XK), Room k (A.deeper (envOfC (cn ++ Str.ofString "." ++ m) (defScope st) s.heap.objs.size f cdv)) → sp vs H Q E →
      ∃ t, PSs (cxOf (CX1 P w) P w K mg base N (cn ++ Str.ofString "." ++ m) (defScope st) f cdv A outer s H E) (defBody st) t ∧ t { nx := fun _ H' => Q .non H', rt := Q } (start N vs) H) : Method P w K mg base C m (CX1 P w) (k + 1) ps sp := by
  obtain ⟨f, fd, F, m⟩ := D.ex
  exact ⟨f, fd, F.ok1 S len (fun cdv A outer s H vs Q E hr h => hbody f cdv A outer s H vs Q E hr h), m, F.binds hb⟩
theorem MethAt.meth0 {cn m : Str} {C : Addr} {st : Stmt} {N ps : List Str} {k : Nat} {sp : Sp} (D : MethAt K C cn m st) (S : FnScope N ps (defScope st))
    (hb : ∀ (kV doc pm : Value) (an : Option Addr) (cdv ct : Value) (us : List Value), us.length = ps.length → bindArgs (PySem.W.fnOf m (cn ++ Str.ofString "." ++ m) (defArgs st) (defBody st) (defScope st) .none kV doc pm an cdv ct) ⟨us, []⟩ = pure (ps.zip us))
    (len : ∀ vs H Q E, sp vs H Q E → vs.length = ps.length)
    (hbody : ∀ (f : Addr) (cdv : Value) (A : Around) (outer : List Env) (s : Shared) (H : Hp) (vs : List V) (Q : VK) (E : XK), Room k (A.deeper (envOfC (cn ++ Str.ofString "." ++ m) (defScope st) s.heap.objs.size f cdv)) → sp vs H Q E →
      ∃ t, PSs (cxOf CX0 P w K mg base N (cn ++ Str.ofString "." ++ m) (defScope st) f cdv A outer s H E).nox (defBody st) t ∧ t { nx := fun _ H' => Q .non H', rt := Q } (start N vs) H) : Method P w K mg base C m CX0 (k + 1) ps sp := by
  obtain ⟨f, fd, F, m⟩ := D.ex
  exact ⟨f, fd, F.ok S len (fun cdv A outer s H vs Q E hr h => hbody f cdv A outer s H vs Q E hr h), m, F.binds hb⟩
end
section
variable {X : Cx} {x m : Str} {k : Nat} {ps : List Str} {sp : Sp} {p pos apos : Pos} {o e : Expr} {es : List Expr} {ta : TE} {t : TA} {E : XK} {C : Addr} {CX : CXT}
theorem pe_fn1 (F : Callee1 X.prog X.w X.K X.mg X.base x k ps sp) (hr : Room k X.A) (hx : Passes (CX1 X.prog X.w) X E) (hg : Gl X x) (ha : PA X (e :: es) t) (hdb : (x == ("__debug__" : Str)) = false := by decide)
    (he : starEach (e :: es) X.env = (false, eval e X.env) :: starEach es X.env := by rfl) (hpl : (backTo pos (starEach es X.env)).any (·.1) = false := by rfl) : PE X (.Call (.Name x p) (e :: es) [] pos) (tCall sp [] E t) := by
  obtain ⟨f, fd, F, hm, hk, hb⟩ := F.ex
  exact pe_call F hr hg hm hk hb .nil hx ha hdb he hpl
theorem pe_mt {pl : Sem Bool} (he : PE X o ta) (c : Cls X.K C) (F : Method X.prog X.w X.K X.mg X.base C m CX k ps sp) (hr : Room k X.A) (hx : Passes CX X E) (ha : PA X (e :: es) t)
    (hst : starEach (e :: es) X.env = (false, eval e X.env) :: starEach es X.env := by rfl) (hpl : (backTo pos (starEach es X.env)).any (·.1) = false := by rfl)
    (ht : eval (.Call (.Attribute o m apos) (e :: es) [] pos) X.env = (do
      let ov ← eval o X.env
      standAt apos.atName
      let (f, first) ← holding [ov] (getMethod ov m pl)
      callWith pos f first (backTo pos (starEach (e :: es) X.env)) (backToKw pos (keywordEach [] X.env))) := by rfl) :
    PE X (.Call (.Attribute o m apos) (e :: es) [] pos) (tMeth C m sp [] E ta t) := by
  obtain ⟨f, fd, F, hm, hb⟩ := F.ex
  exact pe_meth he c hm F hr hb .nil hx ha hst hpl ht
theorem pe_mt0 {pl : Sem Bool} (he : PE X o ta) (c : Cls X.K C) (F : Method X.prog X.w X.K X.mg X.base C m CX k ps sp) (hr : Room k X.A) (hx : Passes CX X E)
    (ht : eval (.Call (.Attribute o m apos) [] [] pos) X.env = (do
      let ov ← eval o X.env
      standAt apos.atName
      let (f, first) ← holding [ov] (getMethod ov m pl)
      callWith pos f first (backTo pos (starEach [] X.env)) (backToKw pos (keywordEach [] X.env))) := by rfl) :
    PE X (.Call (.Attribute o m apos) [] [] pos) (tMeth C m sp [] E ta tNil) := by
  obtain ⟨f, fd, F, hm, hb⟩ := F.ex
  exact pe_meth0 he c hm F hr hb .nil hx ht
end
end L2

namespace L2
open PySem PySem.Spec PyProof.Rows

/-! ## Unpacking of lists -/
section
variable {X : Cx}
def gLst (K : PySem.W.Frag) (n : Nat) (t : TGs) : TG := fun v σ H Q => ∃ a xs, v = .ref a ∧ SqL K H a xs ∧ xs.length = n ∧ t xs σ H Q
theorem pg_lst {es : List Expr} {k : Nat} {t : TGs} {n : Nat} {pos : Pos} (hc : X.calm = true) (h : PGs X es t)
    (hn : (assignEach es X.env).length = n := by rfl) (hst : (assignEach es X.env).findIdx? (·.1) = none := by rfl) : PG X (.Tuple es k pos) (gLst X.K n t) := by
  intro pins s σ H v u Q I r hw
  obtain ⟨a, xs, e1, hq, hl, hw⟩ := hw
  subst e1
  cases r
  obtain ⟨its, rv, p, hz⟩ := I.list hq
  rw [PyProof.Rows.assign_Tuple]
  refine wpAny_bind (wpAny_standAt ?_)
  unfold unpack
  have hsz : (assignEach es X.env).length = its.toArray.size := by simp [hn, ← hl, rv.length]
  rw [hsz, hst]
  refine wpAny_bind (wpAny_holding (PySem.W.kun_itemsOf (I.ok.hd hc) p.isList fun h' hx => ?_))
  have I1 : Inv X pins σ H { s with heap := h' } := I.kept (t' := s.toks) fun b o e => hx b o (Nat.ne_of_lt (Heap.lt_size e)) e
  exact h pins _ σ H xs _ Q I1 (by simpa using rv) hw
end
/-! ## Lists and tuples compared as data -/
mutual
inductive VD (K : PySem.W.Frag) (H : Hp) : V → PyData → Prop
  | non : VD K H .non .none
  | bl (b : Bool) : VD K H (.bl b) (.bool b)
  | int (i : Int) : VD K H (.int i) (.int i)
  | str (x : Str) : VD K H (.str x) (.str x)
  | lst {a : Addr} {xs : List V} {ds : List PyData} : SqL K H a xs → VDs K H xs ds → VD K H (.ref a) (.list ds)
  | tup {a : Addr} {xs : List V} {ds : List PyData} : SqT K H a xs → VDs K H xs ds → VD K H (.ref a) (.tuple ds)
inductive VDs (K : PySem.W.Frag) (H : Hp) : List V → List PyData → Prop
  | nil : VDs K H [] []
  | cons {x : V} {d : PyData} {xs : List V} {ds : List PyData} : VD K H x d → VDs K H xs ds → VDs K H (x :: xs) (d :: ds)
end
theorem VDs.map {K : PySem.W.Frag} {H : Hp} {α : Type} {f : α → V} {g : α → PyData} : ∀ {l : List α}, (∀ x ∈ l, VD K H (f x) (g x)) → VDs K H (l.map f) (l.map g)
  | [], _ => .nil
  | x :: l, h => .cons (h x List.mem_cons_self) (VDs.map fun y hy => h y (List.mem_cons_of_mem _ hy))
section
variable {X : Cx} {pins : List (Addr × Obj)} {σ : St} {H : Hp} {s : Shared}
mutual
theorem VD.reads (I : Inv X pins σ H s) : ∀ {v : V} {d : PyData} {u : Value}, VD X.K H v d → RelV v u → ∃ as, Reads s.heap u d as
  | _, _, _, .non, r => by cases r; exact ⟨_, .none⟩
  | _, _, _, .bl b, r => by cases r; exact ⟨_, .bool b⟩
  | _, _, _, .int i, r => by obtain ⟨t, rfl⟩ := r; exact ⟨_, .int i t⟩
  | _, _, _, .str x, r => by obtain ⟨t, rfl⟩ := r; exact ⟨_, .str x t⟩
  | _, _, _, .lst hq hs, r => by
    cases r
    obtain ⟨its, rv, ⟨o, n, e, c, _, d⟩, _⟩ := I.list hq
    obtain ⟨as, ra⟩ := VDs.reads I hs rv
    exact ⟨_, .list e c d (by simpa using ra)⟩
  | _, _, _, .tup hq hs, r => by
    cases r
    obtain ⟨its, rv, ⟨o, e, c, n, d⟩, _⟩ := I.tuple hq
    obtain ⟨as, ra⟩ := VDs.reads I hs rv
    exact ⟨_, .tuple e c d (by simpa using ra)⟩
theorem VDs.reads (I : Inv X pins σ H s) : ∀ {vs : List V} {ds : List PyData} {us : List Value}, VDs X.K H vs ds → Vals vs us → ∃ as, ReadsAll s.heap us ds as
  | _, _, _, .nil, r => by cases r; exact ⟨_, .nil⟩
  | _, _, _, .cons h hs, r => by
    cases r with
    | cons r rr =>
      obtain ⟨a1, r1⟩ := VD.reads I h r
      obtain ⟨a2, r2⟩ := VDs.reads I hs rr
      exact ⟨_, .cons r1 r2⟩
end
end
section
variable {X : Cx}
def rEqD (K : PySem.W.Frag) (neg : Bool) : R2 := fun x y H Q => ∃ d e, VD K H x d ∧ VD K H y e ∧ SeqAt.shaped d = true ∧ SeqAt.shaped e = true ∧ Q (.bl (if neg then !PyData.eqv d e else PyData.eqv d e)) H
theorem op_eqD (hu : X.A.units + 64 < cLine) : OpR X (compareOp .Eq) (rEqD X.K false) := by
  intro pins s σ H x y v u Q I rx ry h
  obtain ⟨d, e, hd, he, s1, s2, q⟩ := h
  obtain ⟨a1, r1⟩ := hd.reads I rx
  obtain ⟨a2, r2⟩ := he.reads I ry
  exact eq_dataH r1 r2 s1 s2 hu ⟨.bl _, H, I, rfl, q⟩
/-! ## sorted -/
theorem vals_strs : ∀ {xs : List Str} {us : List Value}, StrsAre us xs → Vals (xs.map V.str) us
  | _, _, .nil => .nil
  | _, _, .cons _ t r => .cons ⟨t, rfl⟩ (vals_strs r)
theorem sorted_fin {pins : List (Addr × Obj)} {σ : St} {H : Hp} {s : Shared} {Q : VK} {vs : List Value} {out : Array Value} {ys : List V} (I : Inv X pins σ H s) (hl : ys.length ≤ sizeLine) (r : Vals ys out.toList)
    (q : Q (.ref (s.heap.objs.size + 1)) (upd H (s.heap.objs.size + 1) (.lst ys))) : EP X pins σ Q (.ref (s.heap.objs.size + 1)) { s with heap := sortedAll s.heap vs out } := by
  obtain ⟨e, he⟩ := sortedAll_at s.heap vs out
  exact ⟨.ref (s.heap.objs.size + 1), _, I.laid (t' := s.toks) (fun b o => sortedAll_old) (Nat.le_succ _) (show ObjOk X.prog X.w _ _ _ (.lst ys) from ⟨hl, out.toList, e, r, by simpa using he⟩), rfl, q⟩
theorem call_sortedI : CallR X (.builtin "sorted") (fun xs H Q => ∃ (a : Addr) (ns : List Int), xs = [V.ref a] ∧ SqL X.K H a (ns.map V.int) ∧ ns.length < 64 ∧ ∀ p (ns' : List Int), H p = none → ns'.Perm ns → ns'.Pairwise (· ≤ ·) → Q (.ref p) (upd H p (.lst (ns'.map V.int)))) := by
  intro pins s σ H xs us Q I r h
  obtain ⟨a, ns, rfl, hq, hb, q⟩ := h
  obtain ⟨u, rfl, ru⟩ := vals1 r
  cases ru
  obtain ⟨its, rv, p, hz⟩ := I.list hq
  have hl : ns.length = its.length := by have := rv.length; rwa [List.length_map] at this
  refine sorted_ints p.isList (ints_are rv) (by omega) fun out ns' a1 a2 a3 => ?_
  exact sorted_fin I (by rw [List.length_map, a2.length_eq]; exact Nat.le_trans (Nat.le_of_lt hb) (by decide)) (vals_ints a1) (q _ ns' (I.hok.fresh (Nat.le_succ _)) a2 a3)
end
end L2
namespace L2
open PySem PySem.Spec PyProof.Rows
/-! ## dicts with texts as keys -/
theorem strsAre_of : ∀ {l : List Value} {ss : List Str}, l.length = ss.length → (∀ (j : Nat) (v : Value) (x : Str), l[j]? = some v → ss[j]? = some x → ∃ t, v = .str x t) → StrsAre l ss
  | [], [], _, _ => .nil
  | v :: l, x :: ss, hl, h => by
    obtain ⟨t, rfl⟩ := h 0 v x rfl rfl
    exact .cons _ _ (strsAre_of (by simpa using hl) fun j u y e1 e2 => h (j + 1) u y (by simpa using e1) (by simpa using e2))
theorem KV.get {κ : Type} : ∀ {a : List (κ × V)} {b : List (κ × Value)} {i : Nat} {k : κ} {x : Value}, KV a b → b[i]? = some (k, x) → ∃ v, a[i]? = some (k, v) ∧ RelV v x
  | [], _, _, _, _, h, e => by cases h; simp at e
  | (k', v') :: a, _, i, k, x, h, e => by
    cases h with
    | cons r rr =>
      cases i with
      | zero =>
        simp at e
        obtain ⟨r1, r2⟩ := r
        simp only at r1
        rw [e] at r1 r2
        exact ⟨v', by rw [r1]; rfl, r2⟩
      | succ i => exact KV.get (i := i) rr (by simpa using e)
section
variable {X : Cx}
/-- sorted(d) -/
theorem call_sortedD (hc : X.calm = true) : CallR X (.builtin "sorted") (fun xs H Q => ∃ (a : Addr) (kvs : List (Key × V)) (ss : List Str), xs = [V.ref a] ∧ Rd H a (.dK kvs) ∧ kvs.map (·.1) = ss.map Sum.inr ∧ ss.length < 64 ∧
    ∀ p (ss' : List Str), H p = none → ss'.Perm ss → sortedS ss' = true → Q (.ref p) (upd H p (.lst (ss'.map V.str)))) := by
  intro pins s σ H xs us Q I r h
  obtain ⟨a, kvs, ss, rfl, hq, hk, h64, q⟩ := h
  obtain ⟨u, rfl, ru⟩ := vals1 r
  cases ru
  obtain ⟨hz, lo, vs, kv, hD⟩ := (show ObjOk X.prog X.w H s.heap a (.dK kvs) from hq.ok I.hok)
  obtain ⟨ep, hat⟩ := hD.dictAt
  have hlen : vs.length = ss.length := by
    have e1 := kv.length
    have e2 := congrArg List.length hk
    rw [List.length_map, List.length_map] at e2
    omega
  have big64 : (64 : Nat) ≤ sizeLine := by decide
  refine Calls.call_function_entry kind_sorted plain_sorted entry_sorted (args_sorted1 _) ?_
  unfold Builtin.«sorted»
  refine wpAny_bind (m := checkCount "sorted" 1 1 _) (wpAny_pure ?_)
  refine wpAny_bind (PySem.W.kdu_collect (A := X.A.in1) (PySem.W.kdl_dict (knd := mixKind X.prog X.w) (kvs := vs) (ep := ep) lo) (I.ok.hd hc) hat (by omega) fun h' tk acc hkeep hacc => ?_)
  have hl : acc.toList.length = vs.length := by rw [Array.length_toList]; exact hacc.1
  have hS : StrsAre acc.toList ss := by
    refine strsAre_of (by omega) fun j v x e1 e2 => ?_
    obtain ⟨k, y, e3, hk2⟩ := hacc.2 j v (by rw [← Array.getElem?_toList]; exact e1)
    obtain ⟨v', e4, _⟩ := kv.get e3
    have e5 : (kvs.map (·.1))[j]? = some k := by rw [List.getElem?_map, e4]; rfl
    rw [hk, List.getElem?_map, e2] at e5
    have e6 : Sum.inr x = k := Option.some.inj e5
    subst e6
    rcases keyIs_shape (show keyIs (Sum.inr x) v = true from hk2) with ⟨i, t, e, _⟩ | ⟨y, t, e, e7⟩
    · cases e
    · cases e; exact ⟨t, e7⟩
  refine wpAny_bind (wpAny_newList ?_ (by rw [hl]; omega))
  have hoL : (h'.push (seqObj "list" acc.toList.toArray 0)).get? h'.objs.size = some (seqObj "list" acc.toList.toArray 0) := Heap.get?_push_size _ rfl
  refine wpAny_bind (wpAny_holding (wpAny_call_entry slot_list_sort ⟨_, hoL, rfl⟩ entry_list_sort (list_sort_treeK strKind_oneLt hoL hS.keysOf (fun v₁ v₂ rest e => keyKind_strs (by rw [← e]; exact hS)) (by omega) fun st' hp hs => ⟨_, rfl, ?_⟩) (args_list_sort _)))
  obtain ⟨ss', a1, a2, a3⟩ := sorted_out_str hS hp hs
  refine wpAny_pure ⟨_, rfl, ?_⟩
  obtain ⟨e, he⟩ := sortedHeap_at (out := (arrOf st').map (·.2)) hoL
  have I1 : Inv X pins σ H { s with heap := h', toks := tk } := I.kept hkeep
  have I2 := Inv.laid (o := .lst (ss'.map V.str)) (a := h'.objs.size) (h' := sortedHeap (h'.push (seqObj "list" acc.toList.toArray 0)) h'.objs.size acc.toList ((arrOf st').map (·.2))) (t' := tk) I1 (fun b o hb => by
    have lt := Heap.lt_size hb
    rw [sortedHeap_old (Nat.ne_of_lt lt) (by rw [Heap.size_push]; exact Nat.lt_succ_of_lt lt)]
    exact Heap.get?_push_of_some _ hb) (Nat.le_refl _) (show ObjOk X.prog X.w _ _ _ (.lst (ss'.map V.str)) from ⟨by rw [List.length_map, a2.length_eq]; omega, _, e, vals_strs a1, by rw [Array.toArray_toList]; exact he⟩)
  exact ⟨.ref h'.objs.size, _, I2, rfl, q _ ss' (I1.hok.fresh (Nat.le_refl _)) a2 a3⟩
end
end L2

namespace L2
open PySem PySem.Spec PyProof.Rows

/-! ## Walking a dict: through the walk its record is held fast -/
section
variable {X : Cx} {pins : List (Addr × Obj)} {σ : St} {H : Hp} {s : Shared} {a : Addr} {kvs : List (Key × V)}
theorem Inv.freeze (I : Inv X pins σ H s) (h : H a = some (.dK kvs)) : ∃ o, s.heap.get? a = some o ∧ Inv X pins σ (upd H a (.frz o (.dK kvs))) s := by
  have ok := (show ObjOk X.prog X.w H s.heap a (.dK kvs) from I.hok a _ h)
  obtain ⟨o, ho⟩ := ok.there
  refine ⟨o, ho, ?_⟩
  have := Inv.write (x := a) (e := a) (o := .frz o (.dK kvs)) (h' := s.heap) (t' := s.toks) I (by rw [h]; trivial) (.inl rfl) (fun _ _ _ q => q) ⟨o, ho⟩ ⟨ho, ok.stay (fun _ _ _ q => q) (fun b q => by rw [upd_ne (fun z => by rw [z, h] at q; cases q)]; exact q) fun b xs q => by rw [upd_ne (fun z => by rw [z, h] at q; cases q)]; exact q⟩
  exact this
theorem Inv.unfreeze {o : Obj} (I : Inv X pins σ H s) (h : H a = some (.frz o (.dK kvs))) (h0 : ∀ o u, X.H₀ a ≠ some (.frz o u)) : Inv X pins σ (upd H a (.dK kvs)) s := by
  have nn : ∀ b, H b = none → b ≠ a := fun b q z => by rw [z, h] at q; cases q
  obtain ⟨ho, ok⟩ := (show ObjOk X.prog X.w H s.heap a (.frz o (.dK kvs)) from I.hok a _ h)
  have own : ∀ b y, H b = some (.own y) → upd H a (.dK kvs) b = some (.own y) := fun b y q => by rw [upd_ne (fun z => by rw [z, h] at q; cases q)]; exact q
  have tups : ∀ b xs, H b = some (.tup xs) → upd H a (.dK kvs) b = some (.tup xs) := fun b y q => by rw [upd_ne (fun z => by rw [z, h] at q; cases q)]; exact q
  refine ⟨I.ok, I.os, I.bare, ⟨I.base.keep, I.base.slot, fun b u q n hx => ?_, I.base.there, fun b xs q => tups b xs (I.base.tups b xs q), fun b u v q => ?_, fun b ps q => ?_⟩, I.loc, I.cell, ?_, fun y c e => ?_, fun p hp => ?_, fun b u q => ?_, I.len⟩
  · have := I.base.free b u q n hx
    rw [upd_ne (nn b this)]; exact this
  · have q' := I.base.frzs b u v q
    rw [upd_ne (fun z => h0 _ _ (z ▸ q))]; exact q'
  · obtain ⟨m, e⟩ := I.base.tbls b ps q
    exact ⟨m, by rw [upd_ne (fun z => by rw [z, h] at e; cases e)]; exact e⟩
  · rw [upd_ne (nn _ I.free)]; exact I.free
  · rw [upd_ne (nn _ (I.freeC y c e))]; exact I.freeC y c e
  · obtain ⟨e1, e2, e3, e4, e5⟩ := I.pin p hp
    exact ⟨e1, by rw [upd_ne (nn _ e2)]; exact e2, e3, e4, e5⟩
  · by_cases hb : b = a
    · subst hb
      rw [upd_same] at q
      cases q
      exact ok.stay (fun _ _ _ q => q) (fun c q => own c _ q) tups
    · rw [upd_ne hb] at q
      exact (I.hok b u q).stay (fun _ _ _ q => q) (fun c q => own c _ q) tups
end
def Itd (a : Addr) (o : Obj) (kvs : List (Key × V)) : It := ⟨fun i H => H a = some (.frz o (.dK kvs)) ∧ i < kvs.length, fun i H v H' => H' = H ∧ ∃ k y, kvs[i]? = some (k, y) ∧ v = kV k, fun i H => H a = some (.frz o (.dK kvs)) ∧ kvs.length ≤ i⟩
theorem kV_rel {k : Key} {v : Value} (h : keyIs k v = true) : RelV (kV k) v := by
  rcases keyIs_shape h with ⟨i, t, rfl, rfl⟩ | ⟨x, t, rfl, rfl⟩
  · exact ⟨t, rfl⟩
  · exact ⟨t, rfl⟩
theorem frz_at {X : Cx} {pins : List (Addr × Obj)} {σ : St} {H : Hp} {s : Shared} {a : Addr} {o : Obj} {kvs : List (Key × V)} {es : Array DictEntry} {ep : Nat} (I : Inv X pins σ H s) (h : H a = some (.frz o (.dK kvs))) (hd : o.data = .dict es ep) :
    (a == sysModules) = false ∧ ∃ vs, KV kvs vs ∧ s.heap.DictAt (mixKind X.prog X.w) a vs ep := by
  obtain ⟨ho, hz, lo, vs, kv, o', es', ep', ho', c, d, r⟩ := (show ObjOk X.prog X.w H s.heap a (.frz o (.dK kvs)) from I.hok a _ h)
  rw [ho] at ho'
  cases ho'
  rw [hd] at d
  cases d
  exact ⟨lo, vs, kv, o, es, ho, c, hd, r⟩
theorem turn_dict {P : Program} {w : World} {K : PySem.W.Frag} {tg : Expr} (a it : Addr) (o : Obj) (kvs : List (Key × V)) (es : Array DictEntry) (ep : Nat) (hd : o.data = .dict es ep) :
    Turn P w K tg (Itd a o kvs) [it] it (fun i h => h.IsKeyIter it a i kvs.length ep) where
  mem := by simp
  obj := fun i h st b hb => by
    have e : b = it := by simpa using hb
    subst e
    obtain ⟨o, e, c, d⟩ := st
    exact ⟨o, e, fun v z => by rw [d] at z; cases z⟩
  keep := fun i h h' st k => by
    obtain ⟨o, e, r⟩ := st
    exact ⟨o, k it (by simp) o e, r⟩
  item := by
    intro X hP hw hK hc i pins s σ H E I hf st hg
    subst hP hw hK
    obtain ⟨hz, hi⟩ := hg
    obtain ⟨lo, vs, kv, hat⟩ := frz_at I hz hd
    obtain ⟨f0, f1, f2, f3, f4, f5⟩ := hf it (by simp)
    have hl := kv.length
    have hx : vs[i]? = some (vs[i]'(by omega)) := List.getElem?_eq_getElem _
    refine wpAny_pyNext_dict_item (knd := mixKind X.prog X.w) (k := (vs[i]'(by omega)).1) (v := (vs[i]'(by omega)).2) (by rw [← hl]; exact st) hat hx fun key h' hk st' sb => ?_
    have I1 : Inv X pins σ H { s with heap := h' } := I.turned (t' := s.toks) (fun b o hb e => (sb.2 b hb).trans e) f0 f1 f3 f4 f5
    obtain ⟨o', e, c, d⟩ := id st'
    obtain ⟨y, e2, _⟩ := kv.get (k := (vs[i]'(by omega)).1) (x := (vs[i]'(by omega)).2) hx
    exact ⟨key, rfl, go_of (s := { s with heap := h' }) e c d (by decide) ⟨kV (vs[i]'(by omega)).1, H, I1, kV_rel hk, ⟨rfl, _, y, e2, rfl⟩, by rw [hl]; exact st', fun b hb => (hf b hb).1⟩⟩
  done := by
    intro X hP hw hK hc i pins s σ H E I hf st hg
    subst hP hw hK
    obtain ⟨hz, hi⟩ := hg
    obtain ⟨lo, vs, kv, hat⟩ := frz_at I hz hd
    obtain ⟨f0, f1, f2, f3, f4, f5⟩ := hf it (by simp)
    have hl := kv.length
    exact wpAny_pyNext_dict_end (knd := mixKind X.prog X.w) (I.ok.hd hc) (by rw [← hl]; exact st) hat (List.getElem?_eq_none (by omega)) fun h' eb => ⟨rfl, I.turned (t' := s.toks) (fun b o hb e => eb b o hb e) f0 f1 f3 f4 f5⟩
  self := fun A i s Q E st h => by
    obtain ⟨o, e, c, d⟩ := st
    exact wpAny_pyIter_keyiter ⟨o, e, c, d⟩ h
theorem gives_dict (a : Addr) (o : Obj) (kvs : List (Key × V)) : Gives (Itd a o kvs) (fun H => H a = some (.frz o (.dK kvs))) (kvs.map fun p => kV p.1) where
  go := fun i H q h => ⟨q, by simpa using h⟩
  yld := fun i H v H' q y h => by
    obtain ⟨e, k, w, hk, rfl⟩ := y
    exact ⟨e, by rw [List.getElem?_map, hk]; rfl⟩
  stop := fun H q => ⟨q, by simp⟩
section
variable {X : Cx} {tg : Expr}
def iDic (i : Nat) : TI := fun σ H R => ∃ a o kvs, σ[i]? = some (some (.ref a)) ∧ H a = some (.frz o (.dK kvs)) ∧ R (Itd a o kvs) H
theorem pi_dic {i : Nat} {x : Str} {np : Pos} (hx : PE X (.Name x np) (tVar i)) : PI X tg (.Name x np) (iDic i) := by
  intro pins s σ H R I h
  obtain ⟨a, o, kvs, hσ, ha, q⟩ := h
  refine thn (hx pins s σ H (fun v H1 => v = .ref a ∧ H1 = H) I ⟨_, hσ, rfl, rfl⟩) fun v s1 ⟨y, H1, I1, r1, e1, e2⟩ => ?_
  subst e1 e2
  cases r1
  obtain ⟨ho, _, _, _, _, o', es, ep, ho', _, d, _⟩ := (show ObjOk X.prog X.w H1 s1.heap a (.frz o (.dK kvs)) from I1.hok a _ ha)
  rw [ho] at ho'
  cases ho'
  obtain ⟨lo, vs, kv, hat⟩ := frz_at I1 ha d
  refine wpAny_pyIter_dict (knd := mixKind X.prog X.w) lo hat ?_
  refine ⟨s1.heap.objs.size, [s1.heap.objs.size], _, _, H1, rfl, I1.kept (t' := s1.toks) fun b o e => Heap.get?_push_of_some _ e, turn_dict a _ o kvs es ep d, ?_, fun b hb => ?_, q⟩
  · rw [kv.length]
    exact ⟨_, Heap.get?_push_size _ rfl, rfl, rfl⟩
  · have e : b = s1.heap.objs.size := by simpa using hb
    subst e
    exact I1.fpOk (Nat.le_refl _) (I1.hok.fresh (Nat.le_refl _))
/-- the ends of a walk over a dict that is held fast: it is let go again -/
def Dfrz (a : Addr) (o : Obj) (kvs : List (Key × V)) (D : Ends) : Ends :=
  { nx := fun σ H => H a = some (.frz o (.dK kvs)) ∧ D.nx σ (upd H a (.dK kvs)), rt := fun v H => H a = some (.frz o (.dK kvs)) ∧ D.rt v (upd H a (.dK kvs)),
    bk := fun σ H => H a = some (.frz o (.dK kvs)) ∧ D.bk σ (upd H a (.dK kvs)), ct := fun σ H => H a = some (.frz o (.dK kvs)) ∧ D.ct σ (upd H a (.dK kvs)) }
/-- for .. in d: d a local name's dict that the body leaves as it is -/
def tForD (i : Nat) (g : TG) (tb : TS) : TS := fun D σ H => ∃ a kvs, σ[i]? = some (some (.ref a)) ∧ H a = some (.dK kvs) ∧ ∀ o, ∃ W : Nat → Nat → St → Hp → Prop, (∃ m, W 0 m σ (upd H a (.frz o (.dK kvs)))) ∧ ∀ j m σ H, W j m σ H →
  ((Itd a o kvs).stop j H ∧ (Dfrz a o kvs D).nx σ H) ∨ ((Itd a o kvs).go j H ∧ ∃ N : St → Hp → Prop, (∀ σ' H', N σ' H' → ∃ m', m' < m ∧ W (j + 1) m' σ' H') ∧
    ∀ x H', (Itd a o kvs).yld j H x H' → g x σ H' fun σ2 H2 => tb { Dfrz a o kvs D with nx := N, ct := N, bk := (Dfrz a o kvs D).nx } σ2 H2)
theorem ps_forD {i : Nat} {x : Str} {body : List Stmt} {g : TG} {tb : TS} {np pos : Pos} (hp : PassesOwn (model X.prog X.w) X.A X.env X.xe) (hc : X.calm = true) (hx : PE X (.Name x np) (tVar i)) (hg : PG X tg g) (hb : PSs X body tb)
    (hs : ∀ y, foldedSetIterable (.Name x np) X.env y = pure y := by intro _; rfl) : PS X (.For tg (.Name x np) body [] pos) (tForD i g tb) := by
  intro pins s σ H D I h
  obtain ⟨a, kvs, hσ, ha, h⟩ := h
  obtain ⟨o, ho, I1⟩ := I.freeze ha
  have h0 : ∀ o u, X.H₀ a ≠ some (.frz o u) := fun o' u z => by
    have := I.base.frzs a o' u z
    rw [ha] at this
    cases this
  refine wpAny_mono (ps_for hp hc (pi_dic hx) hg hb hs pins s σ (upd H a (.frz o (.dK kvs))) (Dfrz a o kvs D) I1 ⟨a, o, kvs, hσ, upd_same, h o⟩) (fun f s' q => ?_) fun _ _ z => z
  cases f with
  | next => obtain ⟨σ', H', J, e, q⟩ := q; exact ⟨σ', _, J.unfreeze e h0, q⟩
  | brk => obtain ⟨σ', H', J, e, q⟩ := q; exact ⟨σ', _, J.unfreeze e h0, q⟩
  | cont => obtain ⟨σ', H', J, e, q⟩ := q; exact ⟨σ', _, J.unfreeze e h0, q⟩
  | ret u => obtain ⟨v, σ', H', J, r, e, q⟩ := q; exact ⟨v, σ', _, J.unfreeze e h0, r, q⟩
end
end L2

namespace L2
open PySem PySem.Spec PyProof.Rows

/-! ## A def that the suite of a handler calls -/
structure HCallee (P : Program) (w : World) (K : PySem.W.Frag) (mg : Str → Option Value) (base : Heap) (x : Str) (k : Nat) (ps : List Str) (spf : Addr → Value → Sp) : Prop where
  ex : ∃ f fd, (∀ (e : Addr) (oe : Obj) (c : Value) (vs : Array Value), oe.cls = c ∧ oe.dict = none → oe.data = .fields vs → vs[2]? = some .none → FnOkH P w K mg base e oe k f fd ps (spf e c)) ∧
    mg x = some (.ref f) ∧ PySem.W.keepIn K (.ref f) = true ∧ Binds K fd ps []
theorem DefAt.hcallee {P : Program} {w : World} {K : PySem.W.Frag} {mg : Str → Option Value} {base : Heap} {x : Str} {st : Stmt} {N ps : List Str} {k : Nat} {spf : Addr → Value → Sp} (D : DefAt K mg x st) (S : FnScope N ps (defScope st))
    (hb : ∀ (kV doc pm : Value) (an : Option Addr) (cdv ct : Value) (us : List Value), us.length = ps.length → bindArgs (PySem.W.fnOf x x (defArgs st) (defBody st) (defScope st) .none kV doc pm an cdv ct) ⟨us, []⟩ = pure (ps.zip us))
    (len : ∀ e c vs H Q E, spf e c vs H Q E → vs.length = ps.length)
    (hbody : ∀ (f : Addr) (cdv : Value) (A : Around) (outer : List Env) (s : Shared) (H : Hp) (vs : List V) (Q : VK) (e : Addr) (oe : Obj) (c : Value) (ws : Array Value), oe.cls = c ∧ oe.dict = none → oe.data = .fields ws → QH e oe (cxH P w K mg base N x (defScope st) f cdv A outer s H e oe) → spf e c vs H Q E0 →
      ∃ t, PSs (cxH P w K mg base N x (defScope st) f cdv A outer s H e oe) (defBody st) t ∧ t { nx := fun _ H' => Q .non H', rt := Q } (start N vs) H) : HCallee P w K mg base x (k + 1) ps spf := by
  obtain ⟨f, fd, F, m⟩ := D.ex
  have hbi := F.binds hb
  obtain ⟨oc, od, kV, doc, pm, an, cdv, ct, osl, rfl, lk, hcd⟩ := id F.ex
  exact ⟨f, _, fun e oe c ws hc hd h2 => fn_ofH lk hcd S (len e c) fun A outer s H vs Q hh h => hbody f cdv A outer s H vs Q e oe c ws hc hd (cxH_q hh hd h2) h, m, F.kp, hbi⟩
section
variable {X : Cx} {f : Str} {k k' : Nat} {ps : List Str} {spf : Addr → Value → Sp} {p pos : Pos} {e : Expr} {es : List Expr} {t : TA} {x : Addr} {c : Value} {ox : Obj} {pn : List (Addr × Obj)} {vs : Array Value}
theorem pe_hand (C : HCallee X.prog X.w X.K X.mg X.base f k ps spf) (hr : Room k' X.A) (hx : x ∉ frs X.stack) (hc : ox.cls = c ∧ ox.dict = none) (hd : ox.data = .fields vs) (h2 : vs[2]? = some .none) (hk : k ≤ k') (hg : Gl X f)
    (ha : PA (cxHand X x ox pn) (e :: es) t) (hdb : (f == ("__debug__" : Str)) = false := by decide)
    (he : starEach (e :: es) X.env = (false, eval e X.env) :: starEach es X.env := by rfl) (hpl : (backTo pos (starEach es X.env)).any (·.1) = false := by rfl) : PE (cxHand X x ox pn) (.Call (.Name f p) (e :: es) [] pos) (tCall (spf x c) [] E0 t) := by
  obtain ⟨fa, fd, F, m, kp, hb⟩ := C.ex
  exact pe_callH (X := cxHand X x ox pn) (F x ox c vs hc hd h2) (Room.mark (hr.mono hk)) List.mem_cons_self hx hg m kp hb ha hdb he hpl
end
/-- C() of an own class -/
structure Maker (P : Program) (w : World) (K : PySem.W.Frag) (mg : Str → Option Value) (base : Heap) (x : Str) (C : Addr) (CX : CXT) (k : Nat) (ps : List Str) (sp : Sp) : Prop where
  ex : ∃ f fd, Mk K C f ∧ FnOk P w K mg base CX k f fd ps sp ∧ mg x = some (.ref C) ∧ Binds K fd ps []
theorem pe_mk0 {X : Cx} {x : Str} {C : Addr} {CX : CXT} {k : Nat} {ps : List Str} {sp : Sp} {E : XK} {p pos : Pos} (M : Maker X.prog X.w X.K X.mg X.base x C CX k ps sp) (hr : Room (k + 1) X.A) (hx : Passes CX X E) (hg : Gl X x) (hdb : (x == ("__debug__" : Str)) = false := by decide) :
    PE X (.Call (.Name x p) [] [] pos) (tMake C sp [] E tNil) := by
  obtain ⟨f, fd, M, F, m, b⟩ := M.ex
  exact pe_make0 M F hr hg m b .nil hx hdb
/-! ## Rules whose reading names the fragment, for contexts under binders -/
section
variable {Y : Cx}
theorem ix_list' (K : PySem.W.Frag) (h : Y.K = K) : IxR Y (rIxL K) := by subst h; exact ix_list
end
/-! ## Long lists of arguments: wrapped, so that nothing is unfolded while they are put together -/
def isStar : Expr → Bool
  | .Starred _ _ => true
  | _ => false
theorem star_cons {e : Expr} (es : List Expr) (env : Env) (h : isStar e = false) : starEach (e :: es) env = (false, eval e env) :: starEach es env := by
  cases e <;> first | rfl | cases h
structure QA (X : Cx) (es : List Expr) (t : TA) : Prop where h : PA X es t
structure QE (X : Cx) (e : Expr) (t : TE) : Prop where h : PE X e t
section
variable {X : Cx} {e : Expr} {es : List Expr} {te : TE} {t : TA} {pos : Pos}
theorem qe (h : PE X e te) : QE X e te := ⟨h⟩
theorem qa_nil : QA X [] tNil := ⟨pa_nil⟩
theorem qa_cons (ha : QE X e te) (hr : QA X es t) (h : isStar e = false := by rfl) : QA X (e :: es) (tCons te t) := ⟨pa_cons ha.h hr.h (star_cons es X.env h)⟩
theorem qe_lst (h : QA X es t) : QE X (.List es pos) (tLst t) := ⟨pe_lst h.h⟩
end
structure QS (X : Cx) (st : Stmt) (t : TS) : Prop where h : PS X st t
structure QSs (X : Cx) (st : List Stmt) (t : TS) : Prop where h : PSs X st t
section
variable {X : Cx} {st : Stmt} {rest : List Stmt} {t u : TS} {a b e : Expr} {ta tb te : TE} {pos : Pos}
theorem qs (h : PS X st t) : QS X st t := ⟨h⟩
theorem qss_one (h : QS X st t) : QSs X [st] t := ⟨pss_one h.h⟩
theorem qe_op {op : Operator} {r : R2} (ho : OpR X (binaryOp op) r) (ha : QE X a ta) (hb : QE X b tb) : QE X (.BinOp a op b pos) (tOp r ta tb) := ⟨pe_op ho ha.h hb.h⟩
theorem qss_cons (h : QS X st t) (hr : QSs X rest u) : QSs X (st :: rest) (tSeq t u) := ⟨pss_cons h.h hr.h⟩
theorem qs_ret (h : QE X e te) : QS X (.Return (some e) pos) (tRet te) := ⟨ps_ret h.h⟩
theorem qs_set {i : Nat} {x : Str} {pos' : Pos} (hN : X.N.Nodup) (hi : X.N[i]? = some x) (hx : Loc X.env.scope x) (he : QE X e te) (hs : swapsWith e (some (.Name x pos')) pos.line X.env = pure false := by rfl) (hf : X.fn x = true ∨ X.env.scope.names.lookup x = some .local := by first | exact .inl rfl | exact .inr rfl | assumption) :
    QS X (.Assign [.Name x pos'] e pos) (tAsg te (gName i)) := ⟨ps_set hN hi hx he.h hs hf⟩
end
theorem DefAt.calleeQ {P : Program} {w : World} {K : PySem.W.Frag} {mg : Str → Option Value} {base : Heap} {x : Str} {st : Stmt} {N ps : List Str} {k : Nat} {sp : Sp} (D : DefAt K mg x st) (S : FnScope N ps (defScope st))
    (hb : ∀ (kV doc pm : Value) (an : Option Addr) (cdv ct : Value) (us : List Value), us.length = ps.length → bindArgs (PySem.W.fnOf x x (defArgs st) (defBody st) (defScope st) .none kV doc pm an cdv ct) ⟨us, []⟩ = pure (ps.zip us))
    (len : ∀ vs H Q E, sp vs H Q E → vs.length = ps.length)
    (hbody : ∀ (f : Addr) (cdv : Value) (A : Around) (outer : List Env) (s : Shared) (H : Hp) (vs : List V) (Q : VK) (E : XK), Room k (A.deeper (envOfC x (defScope st) s.heap.objs.size f cdv)) → sp vs H Q E →
      ∃ t, QSs (cxOf CX0 P w K mg base N x (defScope st) f cdv A outer s H E).nox (defBody st) t ∧ t { nx := fun _ H' => Q .non H', rt := Q } (start N vs) H) : Callee P w K mg base x (k + 1) ps sp :=
  D.callee S hb len fun f cdv A outer s H vs Q E hr h => let ⟨t, q, r⟩ := hbody f cdv A outer s H vs Q E hr h; ⟨t, q.h, r⟩
theorem DefAt.hcalleeQ {P : Program} {w : World} {K : PySem.W.Frag} {mg : Str → Option Value} {base : Heap} {x : Str} {st : Stmt} {N ps : List Str} {k : Nat} {spf : Addr → Value → Sp} (D : DefAt K mg x st) (S : FnScope N ps (defScope st))
    (hb : ∀ (kV doc pm : Value) (an : Option Addr) (cdv ct : Value) (us : List Value), us.length = ps.length → bindArgs (PySem.W.fnOf x x (defArgs st) (defBody st) (defScope st) .none kV doc pm an cdv ct) ⟨us, []⟩ = pure (ps.zip us))
    (len : ∀ e c vs H Q E, spf e c vs H Q E → vs.length = ps.length)
    (hbody : ∀ (f : Addr) (cdv : Value) (A : Around) (outer : List Env) (s : Shared) (H : Hp) (vs : List V) (Q : VK) (e : Addr) (oe : Obj) (c : Value) (ws : Array Value), oe.cls = c ∧ oe.dict = none → oe.data = .fields ws → QH e oe (cxH P w K mg base N x (defScope st) f cdv A outer s H e oe) → spf e c vs H Q E0 →
      ∃ t, QSs (cxH P w K mg base N x (defScope st) f cdv A outer s H e oe) (defBody st) t ∧ t { nx := fun _ H' => Q .non H', rt := Q } (start N vs) H) : HCallee P w K mg base x (k + 1) ps spf :=
  D.hcallee S hb len fun f cdv A outer s H vs Q e oe c ws hc hd hq h => let ⟨t, q, r⟩ := hbody f cdv A outer s H vs Q e oe c ws hc hd hq h; ⟨t, q.h, r⟩
theorem pe_cls {X : Cx} {x : Str} {C : Addr} {pos : Pos} (hg : Gl X x) (hm : X.mg x = some (.ref C)) (hd : (x == ("__debug__" : Str)) = false := by decide) : PE X (.Name x pos) (tC (.ref C)) := pe_glob (v := .ref C) hg hm rfl hd
/-! ## Facts of own classes from what the top has written -/
section
variable {K : PySem.W.Frag} {C D CE : Addr} {oc : Value} {od : Option Addr} {cd : ClassData} {sl : Array (Option Value)} {b : Bool}
end
/-! ## What lies outside a footprint stays -/
theorem keepL {H : Hp} {p l : Addr} {ys : List V} {o : HO} (h : H l = some (.lst ys)) (n : H p = none) : upd H p o l = some (.lst ys) := by rw [upd_ne (ne_of_none h n)]; exact h
theorem Same.lstE {H0 H : Hp} (m : Same H0 H) {o : HO} {p : Addr} (n : H p = none) : Same H0 (upd H p o) ∧ upd H p o p = some o := ⟨m.put (m.free n), upd_same⟩
def Keep (F : Addr → Prop) (H H' : Hp) : Prop := ∀ a o, H a = some o → ¬ F a → H' a = some o
theorem Keep.refl {F : Addr → Prop} {H : Hp} : Keep F H H := fun _ _ e _ => e
theorem Same.keep {F : Addr → Prop} {H H' : Hp} (s : Same H H') : Keep F H H' := fun a o e _ => s a o e
theorem Keep.trans {F G : Addr → Prop} {H H1 H2 : Hp} (a : Keep F H H1) (b : Keep G H1 H2) (h : ∀ x o, H x = some o → G x → F x) : Keep F H H2 := fun x o e n => b x o (a x o e n) fun g => n (h x o e g)
end L2

namespace L2
open PySem PySem.Spec PyProof.Rows
/-! ### small facts -/
theorem at_get {ns : List Int} {k : Int} (h0 : 0 ≤ k) (h : k < (ns.length : Int)) : atI (ns.map V.int) k = some (V.int (ns.getD k.toNat 0)) := by
  have hk : k.toNat < ns.length := by omega
  have e : ((k.toNat : Nat) : Int) = k := by omega
  rw [← e]
  refine atI_nat ?_
  rw [List.getElem?_map, List.getD_eq_getElem?_getD, Int.toNat_natCast, List.getElem?_eq_getElem hk]
  rfl
theorem getD_big {ns : List Int} {k : Int} (h : ¬ k < (ns.length : Int)) : ns.getD k.toNat 0 = 0 := by
  rw [List.getD_eq_getElem?_getD, List.getElem?_eq_none (by omega)]
  rfl
theorem txt_len {x : Str} : x.cps.toList.length = x.length := by simp [Str.length]
theorem sizeBig : 1000 ≤ sizeLine := by decide
theorem big {n : Nat} (h : n ≤ 1000) : n ≤ sizeLine := Nat.le_trans h sizeBig
theorem bigr {n : Nat} (h : Nat.ble n 1000 = true) : n ≤ sizeLine := big (Nat.le_of_ble_eq_true h)
theorem p2 : (0 : Int) < 2 := by decide
theorem p4 : (0 : Int) < 4 := by decide
theorem dec_ii {a b : Int} : decide (V.int a = V.int b) = decide (a = b) := by
  rw [decide_eq_decide]
  exact ⟨fun h => by injection h, fun h => by rw [h]⟩
theorem range_int {i n : Nat} {lo : Int} {x : V} (h : ((List.range n).map fun i => V.int (lo + ((i : Nat) : Int)))[i]? = some x) : i < n ∧ x = V.int (lo + ((i : Nat) : Int)) := by
  have hi : i < n := by
    have := (List.getElem?_eq_some_iff.mp h).1
    simpa using this
  rw [List.getElem?_map, List.getElem?_range hi] at h
  cases h
  exact ⟨hi, rfl⟩
/-! ### names -/
def small (c : Nat) : Bool := decide (97 ≤ c) && decide (c ≤ 122)
def isName (x : Str) : Bool := (decide (1 ≤ x.length) && decide (x.length ≤ 6)) && x.cps.toList.all small
theorem name_len {x : Str} (h : isName x = true) : 1 ≤ x.length ∧ x.length ≤ 6 := by
  unfold isName at h
  simp only [Bool.and_eq_true, decide_eq_true_eq] at h
  exact h.1
theorem nodup_le {α : Type} [DecidableEq α] : ∀ {l m : List α}, l.Nodup → (∀ x ∈ l, x ∈ m) → l.length ≤ m.length
  | [], _, _, _ => Nat.zero_le _
  | x :: l, m, hn, h => by
    have hx := h x List.mem_cons_self
    have hn := List.nodup_cons.mp hn
    have ih := nodup_le (m := m.erase x) hn.2 fun y hy => (List.mem_erase_of_ne (fun z : y = x => hn.1 (by rw [← z]; exact hy))).mpr (h y (List.mem_cons_of_mem _ hy))
    have e := List.length_erase_of_mem hx
    have := List.length_pos_of_mem hx
    rw [List.length_cons]
    omega
/-! ### numbers that differ -/
theorem dedup_len : ∀ (ns acc : List Int), (ns.foldl step_dedup acc).length ≤ acc.length + ns.length ∧ (acc.Nodup → ((ns.foldl step_dedup acc).length = acc.length + ns.length ↔ (acc ++ ns).Nodup))
  | [], acc => ⟨by simp, fun h => by simp [h]⟩
  | n :: ns, acc => by
    rw [List.foldl_cons]
    by_cases hm : n ∈ acc
    · have e : step_dedup acc n = acc := by
        unfold step_dedup
        rw [if_pos (List.any_eq_true.mpr ⟨n, hm, by simp⟩)]
      rw [e]
      have ih := dedup_len ns acc
      refine ⟨by have := ih.1; rw [List.length_cons]; omega, fun _ => ⟨fun z => ?_, fun z => ?_⟩⟩
      · have := ih.1
        rw [List.length_cons] at z
        omega
      · exact absurd rfl ((List.nodup_append.mp z).2.2 n hm n List.mem_cons_self)
    · have e : step_dedup acc n = acc ++ [n] := by
        unfold step_dedup
        rw [if_neg]
        intro z
        obtain ⟨x, hx, ex⟩ := List.any_eq_true.mp z
        have : x = n := by simpa using ex
        subst this
        exact hm hx
      rw [e]
      have ih := dedup_len ns (acc ++ [n])
      rw [List.length_append, List.length_singleton, List.append_assoc] at ih
      refine ⟨by have := ih.1; rw [List.length_cons]; omega, fun h => ?_⟩
      have hn : (acc ++ [n]).Nodup := by
        refine List.nodup_append.mpr ⟨h, by simp, fun a ha b hb => ?_⟩
        have : b = n := by simpa using hb
        subst this
        intro z
        subst z
        exact hm ha
      have := ih.2 hn
      rw [List.length_cons]
      rw [show acc.length + (ns.length + 1) = acc.length + 1 + ns.length by omega]
      exact this
theorem many_eq (ns : List Int) : many ns = (ns.foldl step_dedup []).length := by
  unfold many firstMet
  congr 2
  apply List.ext_getElem?
  intro i
  rw [List.getElem?_map]
  by_cases h : i < ns.length
  · rw [List.getElem?_range h]
    simp [List.getD_eq_getElem?_getD, h]
  · rw [List.getElem?_eq_none (by simpa using h), List.getElem?_eq_none (by simpa using h)]
    rfl
theorem many_nodup (ns : List Int) : many ns = ns.length ↔ ns.Nodup := by
  rw [many_eq]
  have := (dedup_len ns []).2 List.nodup_nil
  simpa using this
def inR (t : Int) : Bool := decide (0 ≤ t) && decide (t ≤ 7)
def areTeeth (ts : List Int) : Bool := decide (0 ∈ ts) && (decide (many ts = ts.length) && ts.all inR)
theorem in_zero (ts : List Int) : inV (V.int 0) (ts.map V.int) = decide (0 ∈ ts) := by
  unfold inV
  rw [List.any_map, Bool.eq_iff_iff, List.any_eq_true, decide_eq_true_eq]
  constructor
  · rintro ⟨x, hx, e⟩
    have : x = 0 := by
      have e' : (x == 0) = true := e
      exact eq_of_beq e'
    rw [← this]; exact hx
  · intro h
    exact ⟨0, h, rfl⟩
theorem flats (ts : List Int) : (ts.map V.int).all flatV = true := by
  rw [List.all_map, List.all_eq_true]
  intro x _
  rfl
/-! ### drawn combs -/
def KindsL (G : Addr → Prop) (H : Hp) : List V → List (Str × List Int) → Prop
  | [], [] => True
  | v :: vs, k :: ks => (∃ q t, v = .ref q ∧ H q = some (.lst [.str k.1, .ref t]) ∧ H t = some (.lst (k.2.map V.int)) ∧ G q ∧ G t) ∧ KindsL G H vs ks
  | _, _ => False
theorem KindsL.mono {G G' : Addr → Prop} {H H' : Hp} (s : ∀ a o, G a → H a = some o → H' a = some o) (g : ∀ a, G a → G' a) : ∀ {vs : List V} {ks : List (Str × List Int)}, KindsL G H vs ks → KindsL G' H' vs ks
  | [], [], _ => trivial
  | _ :: _, _ :: _, ⟨⟨q, t, e, h1, h2, g1, g2⟩, r⟩ => ⟨⟨q, t, e, s _ _ g1 h1, s _ _ g2 h2, g _ g1, g _ g2⟩, KindsL.mono s g r⟩
  | [], _ :: _, h => h.elim
  | _ :: _, [], h => h.elim
theorem KindsL.same {G : Addr → Prop} {H H' : Hp} {vs : List V} {ks : List (Str × List Int)} (s : Same H H') (h : KindsL G H vs ks) : KindsL G H' vs ks := h.mono (fun a o _ e => s a o e) fun _ g => g
theorem KindsL.upd {G : Addr → Prop} {H : Hp} {p : Addr} {o : HO} {vs : List V} {ks : List (Str × List Int)} (h : KindsL G H vs ks) (n : ¬ G p) : KindsL G (upd H p o) vs ks := h.mono (fun a u g e => by rw [upd_ne (fun z : a = p => n (by rw [← z]; exact g))]; exact e) fun _ g => g
theorem KindsL.snoc {G : Addr → Prop} {H : Hp} {q t : Addr} {k : Str × List Int} (h1 : H q = some (.lst [.str k.1, .ref t])) (h2 : H t = some (.lst (k.2.map V.int))) (g1 : G q) (g2 : G t) : ∀ {vs : List V} {ks : List (Str × List Int)}, KindsL G H vs ks → KindsL G H (vs ++ [.ref q]) (ks ++ [k])
  | [], [], _ => ⟨⟨q, t, rfl, h1, h2, g1, g2⟩, trivial⟩
  | _ :: _, _ :: _, ⟨a, b⟩ => ⟨a, KindsL.snoc h1 h2 g1 g2 b⟩
  | [], _ :: _, x => x.elim
  | _ :: _, [], x => x.elim
theorem KindsL.length {G : Addr → Prop} {H : Hp} : ∀ {vs : List V} {ks : List (Str × List Int)}, KindsL G H vs ks → vs.length = ks.length
  | [], [], _ => rfl
  | _ :: _, _ :: _, ⟨_, b⟩ => by rw [List.length_cons, List.length_cons, KindsL.length b]
  | [], _ :: _, x => x.elim
  | _ :: _, [], x => x.elim
theorem KindsL.get {G : Addr → Prop} {H : Hp} : ∀ {vs : List V} {ks : List (Str × List Int)} {i : Nat} {v : V}, KindsL G H vs ks → vs[i]? = some v → ∃ k q t, ks[i]? = some k ∧ v = .ref q ∧ H q = some (.lst [.str k.1, .ref t]) ∧ H t = some (.lst (k.2.map V.int))
  | [], [], _, _, _, e => by simp at e
  | _ :: _, k :: _, 0, _, ⟨⟨q, t, e, h1, h2, _⟩, _⟩, z => by
    simp at z
    subst z
    exact ⟨k, q, t, rfl, e, h1, h2⟩
  | _ :: _, _ :: _, i + 1, _, ⟨_, b⟩, z => by
    obtain ⟨k, q, t, h⟩ := KindsL.get (i := i) b (by simpa using z)
    exact ⟨k, q, t, by simpa using h⟩
  | [], _ :: _, _, _, x, _ => x.elim
  | _ :: _, [], _, _, x, _ => x.elim
/-- rising teeth from 0 to 7, 0 among them -/
def GT (ts : List Int) : Prop := ∃ f : Nat → Bool, ts = ((List.range 8).filter f).map (fun i => ((i : Nat) : Int)) ∧ f 0 = true
structure Drawn (G : Addr → Prop) (H : Hp) (vs : List V) (ks : List (Str × List Int)) : Prop where
  rows : KindsL G H vs ks
  nd : (ks.map (·.1)).Nodup
  good : ∀ k ∈ ks, isName k.1 = true ∧ GT k.2
theorem Drawn.same {G : Addr → Prop} {H H' : Hp} {vs : List V} {ks : List (Str × List Int)} (d : Drawn G H vs ks) (s : Same H H') : Drawn G H' vs ks := ⟨d.rows.same s, d.nd, d.good⟩
theorem Drawn.upd {G : Addr → Prop} {H : Hp} {p : Addr} {o : HO} {vs : List V} {ks : List (Str × List Int)} (d : Drawn G H vs ks) (n : ¬ G p) : Drawn G (upd H p o) vs ks := ⟨d.rows.upd n, d.nd, d.good⟩
theorem Drawn.any {G : Addr → Prop} {H : Hp} {vs : List V} {ks : List (Str × List Int)} (d : Drawn G H vs ks) : Drawn (fun _ => True) H vs ks := ⟨d.rows.mono (fun _ _ _ e => e) fun _ _ => trivial, d.nd, d.good⟩
theorem Drawn.snoc {G : Addr → Prop} {H : Hp} {vs : List V} {ks : List (Str × List Int)} {q t : Addr} {k : Str × List Int} (d : Drawn G H vs ks) (h1 : H q = some (.lst [.str k.1, .ref t])) (h2 : H t = some (.lst (k.2.map V.int))) (g1 : G q) (g2 : G t) (hn : k.1 ∉ ks.map (·.1)) (hk : isName k.1 = true ∧ GT k.2) : Drawn G H (vs ++ [.ref q]) (ks ++ [k]) := by
  refine ⟨KindsL.snoc h1 h2 g1 g2 d.rows, ?_, fun x hx => ?_⟩
  · rw [List.map_append]
    refine List.nodup_append.mpr ⟨d.nd, by simp, fun a ha b hb => ?_⟩
    have e : b = k.1 := by simpa using hb
    rw [e]
    exact fun z => hn (z ▸ ha)
  · rcases List.mem_append.mp hx with z | z
    · exact d.good x z
    · rw [List.mem_singleton.mp z]; exact hk
end L2

namespace L2
open PySem PySem.Spec PyProof.Rows

/-! ## Combs as data -/
abbrev Combs := List (Str × List Int)
def cGet (cs : Combs) (x : Str) : Option (List Int) := (cs.find? fun c => decide (c.1 = x)).map (·.2)
def cPut (cs : Combs) (x : Str) (ts : List Int) : Combs := if (cs.any fun c => decide (c.1 = x)) = true then cs.map (fun c => if c.1 = x then (c.1, ts) else c) else cs ++ [(x, ts)]
def cDrop (cs : Combs) (x : Str) : Combs := cs.filter fun c => decide (c.1 ≠ x)
/-- a list of teeth, rising -/
def canon (ts : List Int) : List Int := ((List.range 8).filter fun i => decide (((i : Nat) : Int) ∈ ts)).map fun i => ((i : Nat) : Int)
theorem map_lt (f : Nat → Bool) : (((List.range 8).filter f).map fun i => ((i : Nat) : Int)).Pairwise (· < ·) := by
  rw [List.pairwise_map]
  refine List.Pairwise.sublist List.filter_sublist ?_
  refine List.Pairwise.imp ?_ (List.pairwise_lt_range (n := 8))
  intro a b h
  omega
theorem canon_lt (ts : List Int) : (canon ts).Pairwise (· < ·) := map_lt _
theorem mem_canon {ts : List Int} {t : Int} : t ∈ canon ts ↔ t ∈ ts ∧ 0 ≤ t ∧ t ≤ 7 := by
  unfold canon
  simp only [List.mem_map, List.mem_filter, List.mem_range, decide_eq_true_eq]
  constructor
  · rintro ⟨i, ⟨hi, hm⟩, rfl⟩
    exact ⟨hm, by omega, by omega⟩
  · rintro ⟨hm, h0, h7⟩
    refine ⟨t.toNat, ⟨by omega, ?_⟩, by omega⟩
    rwa [show ((t.toNat : Nat) : Int) = t by omega]
theorem nodup_lt {l : List Int} (h : l.Pairwise (· < ·)) : l.Nodup := h.imp fun h => by omega
theorem canon_nodup (ts : List Int) : (canon ts).Nodup := nodup_lt (canon_lt ts)
theorem same_sorted {a b : List Int} (hp : a.Perm b) (ha : a.Pairwise (· ≤ ·)) (hb : b.Pairwise (· ≤ ·)) : a = b :=
  hp.eq_of_pairwise (fun x y _ _ h1 h2 => Int.le_antisymm h1 h2) ha hb
theorem canon_of {ns ts : List Int} (hp : ns.Perm ts) (hs : ns.Pairwise (· ≤ ·)) (hn : ts.Nodup) (hr : ∀ t ∈ ts, 0 ≤ t ∧ t ≤ 7) : ns = canon ts := by
  refine same_sorted (hp.trans ?_) hs ((canon_lt ts).imp fun h => by omega)
  rw [List.perm_ext_iff_of_nodup hn (canon_nodup ts)]
  intro t
  rw [mem_canon]
  exact ⟨fun h => ⟨h, hr t h⟩, fun h => h.1⟩
theorem gt_lt {ts : List Int} (h : GT ts) : ts.Pairwise (· < ·) := by
  obtain ⟨f, rfl, _⟩ := h
  exact map_lt f
theorem gt_in {ts : List Int} (h : GT ts) : ∀ t ∈ ts, 0 ≤ t ∧ t ≤ 7 := by
  obtain ⟨f, rfl, _⟩ := h
  intro t ht
  obtain ⟨i, hi, rfl⟩ := List.mem_map.mp ht
  have := List.mem_range.mp (List.mem_filter.mp hi).1
  omega
theorem gt_zero {ts : List Int} (h : GT ts) : (0 : Int) ∈ ts := by
  obtain ⟨f, rfl, h0⟩ := h
  exact List.mem_map.mpr ⟨0, List.mem_filter.mpr ⟨by decide, h0⟩, rfl⟩
theorem gt_canon {ts : List Int} (h0 : (0 : Int) ∈ ts) : GT (canon ts) := ⟨_, rfl, decide_eq_true h0⟩
theorem gt_eq {ts : List Int} (h : GT ts) : canon ts = ts := by
  symm
  refine canon_of (List.Perm.refl _) ((gt_lt h).imp fun h => by omega) (nodup_lt (gt_lt h)) (gt_in h)
theorem gt_len {ts : List Int} (h : GT ts) : ts.length ≤ 8 := by
  obtain ⟨f, rfl, _⟩ := h
  rw [List.length_map]
  exact Nat.le_trans (List.length_filter_le _ _) (by simp)
theorem canon_len (ts : List Int) : (canon ts).length ≤ 8 := by
  unfold canon
  rw [List.length_map]
  exact Nat.le_trans (List.length_filter_le _ _) (by simp)
theorem inR_iff {t : Int} : inR t = true ↔ 0 ≤ t ∧ t ≤ 7 := by unfold inR; simp
theorem teeth_iff {ts : List Int} : areTeeth ts = true ↔ (0 : Int) ∈ ts ∧ ts.Nodup ∧ ∀ t ∈ ts, 0 ≤ t ∧ t ≤ 7 := by
  unfold areTeeth
  simp only [Bool.and_eq_true, decide_eq_true_eq, many_nodup, List.all_eq_true, inR_iff]
theorem teeth_len {ts : List Int} (hn : ts.Nodup) (hr : ∀ t ∈ ts, 0 ≤ t ∧ t ≤ 7) : ts.length ≤ 8 := by
  have : ts.length ≤ (canon ts).length := nodup_le hn fun x hx => mem_canon.mpr ⟨hx, hr x hx⟩
  have := canon_len ts
  omega
theorem gt_teeth {ts : List Int} (h : GT ts) : areTeeth ts = true := teeth_iff.mpr ⟨gt_zero h, nodup_lt (gt_lt h), gt_in h⟩
/-- what a book holds -/
structure Good (cs : Combs) : Prop where
  len : cs.length ≤ 8
  nd : (cs.map (·.1)).Nodup
  ok : ∀ c ∈ cs, isName c.1 = true ∧ GT c.2
theorem good_nil : Good [] := ⟨by decide, List.nodup_nil, by simp⟩
theorem get_mem {cs : Combs} {x : Str} {ts : List Int} (h : cGet cs x = some ts) : (x, ts) ∈ cs := by
  unfold cGet at h
  obtain ⟨c, hc, rfl⟩ := Option.map_eq_some_iff.mp h
  have h1 := List.mem_of_find?_eq_some hc
  have h2 : c.1 = x := by simpa using List.find?_some hc
  rw [← h2]
  exact h1
theorem get_none {cs : Combs} {x : Str} : cGet cs x = none ↔ x ∉ cs.map (·.1) := by
  unfold cGet
  rw [Option.map_eq_none_iff, List.find?_eq_none]
  simp only [decide_eq_true_eq, List.mem_map, not_exists, not_and]
theorem any_get {cs : Combs} {x : Str} : (cs.any fun c => decide (c.1 = x)) = (cGet cs x).isSome := by
  rw [Bool.eq_iff_iff, List.any_eq_true, Option.isSome_iff_ne_none, ne_eq, get_none, Classical.not_not, List.mem_map]
  simp
theorem get_cons {c : Str × List Int} {cs : Combs} {x : Str} : cGet (c :: cs) x = if c.1 = x then some c.2 else cGet cs x := by
  unfold cGet
  rw [List.find?_cons]
  by_cases h : c.1 = x
  · simp [h]
  · simp [h]
theorem put_new {cs : Combs} {x : Str} {ts : List Int} (h : cGet cs x = none) : cPut cs x ts = cs ++ [(x, ts)] := by
  unfold cPut
  rw [any_get, h]
  rfl
theorem put_old {cs : Combs} {x : Str} {ts us : List Int} (h : cGet cs x = some us) : cPut cs x ts = cs.map (fun c => if c.1 = x then (c.1, ts) else c) := by
  unfold cPut
  rw [any_get, h]
  rfl
theorem put_keys {cs : Combs} {x : Str} {ts us : List Int} (h : cGet cs x = some us) : (cPut cs x ts).map (·.1) = cs.map (·.1) := by
  rw [put_old h, List.map_map]
  apply List.map_congr_left
  intro c _
  show (if c.1 = x then (c.1, ts) else c).1 = c.1
  split <;> rfl
theorem Good.put {cs : Combs} {x : Str} {ts : List Int} (g : Good cs) (hx : isName x = true) (ht : GT ts) (hl : cs.length < 8 ∨ (cGet cs x).isSome = true) : Good (cPut cs x ts) := by
  cases e : cGet cs x with
  | none =>
    rw [put_new e]
    refine ⟨?_, ?_, ?_⟩
    · rw [e] at hl
      rw [List.length_append, List.length_singleton]
      rcases hl with h | h
      · omega
      · cases h
    · rw [List.map_append]
      exact nd_snoc g.nd (get_none.mp e)
    · intro c hc
      rcases List.mem_append.mp hc with h | h
      · exact g.ok c h
      · rw [List.mem_singleton.mp h]; exact ⟨hx, ht⟩
  | some us =>
    refine ⟨?_, by rw [put_keys e]; exact g.nd, ?_⟩
    · rw [put_old e, List.length_map]; exact g.len
    · rw [put_old e]
      intro c hc
      obtain ⟨c0, h0, rfl⟩ := List.mem_map.mp hc
      split
      · exact ⟨(g.ok c0 h0).1, ht⟩
      · exact g.ok c0 h0
theorem Good.drop {cs : Combs} {x : Str} (g : Good cs) : Good (cDrop cs x) := by
  refine ⟨Nat.le_trans (List.length_filter_le _ _) g.len, ?_, fun c hc => g.ok c (List.mem_filter.mp hc).1⟩
  exact List.Nodup.sublist (List.Sublist.map _ List.filter_sublist) g.nd
/-! ## A book on the heap -/
def KvR (G : Addr → Prop) (H : Hp) : List (Key × V) → Combs → Prop := Paired fun kv c => ∃ t, kv = (Sum.inr c.1, V.ref t) ∧ H t = some (.lst (c.2.map V.int)) ∧ G t
def DictR (G : Addr → Prop) (H : Hp) (d : Addr) (cs : Combs) : Prop := G d ∧ ∃ kvs, H d = some (.dK kvs) ∧ KvR G H kvs cs
theorem KvR.mono {G G' : Addr → Prop} {H H' : Hp} {kvs : List (Key × V)} {cs : Combs} (s : ∀ a o, G a → H a = some o → H' a = some o) (g : ∀ a, G a → G' a) (h : KvR G H kvs cs) : KvR G' H' kvs cs :=
  Paired.mono (fun _ _ ⟨t, e, h1, g1⟩ => ⟨t, e, s _ _ g1 h1, g _ g1⟩) h
theorem DictR.mono {G G' : Addr → Prop} {H H' : Hp} {d : Addr} {cs : Combs} (s : ∀ a o, G a → H a = some o → H' a = some o) (g : ∀ a, G a → G' a) (h : DictR G H d cs) : DictR G' H' d cs :=
  let ⟨g0, kvs, e, r⟩ := h
  ⟨g _ g0, kvs, s _ _ g0 e, r.mono s g⟩
theorem KvR.keys {G : Addr → Prop} {H : Hp} : ∀ {kvs : List (Key × V)} {cs : Combs}, KvR G H kvs cs → kvs.map (·.1) = (cs.map (·.1)).map Sum.inr
  | _, _, .nil => rfl
  | _, _, .cons ⟨t, e, _⟩ r => by
    subst e
    show _ :: _ = _ :: _
    rw [show List.map _ _ = _ from KvR.keys r]
theorem KvR.val {G : Addr → Prop} {H : Hp} {x : Str} : ∀ {kvs : List (Key × V)} {cs : Combs}, KvR G H kvs cs →
    (cGet cs x = none ∧ valV kvs (Sum.inr x) = none) ∨ ∃ ts t, cGet cs x = some ts ∧ valV kvs (Sum.inr x) = some (.ref t) ∧ H t = some (.lst (ts.map V.int)) ∧ G t
  | _, _, .nil => .inl ⟨rfl, rfl⟩
  | _, _, .cons (b := c) ⟨t, e, h1, g1⟩ r => by
    subst e
    by_cases h : c.1 = x
    · refine .inr ⟨c.2, t, by rw [get_cons, if_pos h], valV_pos (by rw [h]), h1, g1⟩
    · have hn : ¬ ((Sum.inr c.1 : Key) = Sum.inr x) := fun z => h (Sum.inr.inj z)
      rcases KvR.val (x := x) r with ⟨e1, e2⟩ | ⟨ts, t', e1, e2, e3⟩
      · exact .inl ⟨by rw [get_cons, if_neg h]; exact e1, by rw [valV_neg hn]; exact e2⟩
      · exact .inr ⟨ts, t', by rw [get_cons, if_neg h]; exact e1, by rw [valV_neg hn]; exact e2, e3⟩
theorem KvR.some {G : Addr → Prop} {H : Hp} {kvs : List (Key × V)} {cs : Combs} {x : Str} (r : KvR G H kvs cs) : (valV kvs (Sum.inr x)).isSome = (cGet cs x).isSome := by
  rcases r.val (x := x) with ⟨e1, e2⟩ | ⟨ts, t', e1, e2, e3⟩
  · rw [e1, e2]; rfl
  · rw [e1, e2]; rfl
theorem KvR.map {G : Addr → Prop} {H : Hp} {x : Str} {t : Addr} {ts : List Int} (h1 : H t = .some (.lst (ts.map V.int))) (g1 : G t) : ∀ {kvs : List (Key × V)} {cs : Combs}, KvR G H kvs cs →
    KvR G H (kvs.map fun kv => if kv.1 = Sum.inr x then (kv.1, V.ref t) else kv) (cs.map fun c => if c.1 = x then (c.1, ts) else c)
  | _, _, .nil => .nil
  | _, _, .cons (b := c) ⟨t', e, h2, g2⟩ r => by
    subst e
    refine .cons ?_ (KvR.map h1 g1 r)
    dsimp only
    by_cases hx : c.1 = x
    · rw [if_pos hx, if_pos (by rw [hx])]
      exact ⟨t, rfl, h1, g1⟩
    · rw [if_neg hx, if_neg (fun z => hx (Sum.inr.inj z))]
      exact ⟨t', rfl, h2, g2⟩
theorem KvR.put {G : Addr → Prop} {H : Hp} {kvs : List (Key × V)} {cs : Combs} {x : Str} {t : Addr} {ts : List Int} (r : KvR G H kvs cs) (h1 : H t = .some (.lst (ts.map V.int))) (g1 : G t) : KvR G H (putK kvs (Sum.inr x) (.ref t)) (cPut cs x ts) := by
  unfold putK cPut
  rw [valV_any, any_get, r.some]
  split
  · exact r.map h1 g1
  · exact Paired.snoc r ⟨t, rfl, h1, g1⟩
theorem drop_pos {c : Str × List Int} {cs : Combs} {x : Str} (h : c.1 = x) : cDrop (c :: cs) x = cDrop cs x := by unfold cDrop; rw [List.filter_cons, if_neg (by simp [h])]
theorem drop_neg {c : Str × List Int} {cs : Combs} {x : Str} (h : ¬ c.1 = x) : cDrop (c :: cs) x = c :: cDrop cs x := by unfold cDrop; rw [List.filter_cons, if_pos (by simp [h])]
theorem KvR.drop {G : Addr → Prop} {H : Hp} {x : Str} : ∀ {kvs : List (Key × V)} {cs : Combs}, KvR G H kvs cs → KvR G H (dropK kvs (Sum.inr x)) (cDrop cs x)
  | _, _, .nil => .nil
  | _, _, .cons (b := c) ⟨t, e, h1, g1⟩ r => by
    subst e
    by_cases h : c.1 = x
    · rw [dropK_pos (by rw [h]), drop_pos h]
      exact KvR.drop r
    · rw [dropK_neg (fun z => h (Sum.inr.inj z)), drop_neg h]
      exact .cons ⟨t, rfl, h1, g1⟩ (KvR.drop r)
abbrev PastR (G : Addr → Prop) (H : Hp) : List V → List Combs → Prop := Paired fun v cs => ∃ d, v = .ref d ∧ DictR G H d cs
/-- b: the book, l: its list of what was; G: the dicts and the lists of teeth, which no deed changes -/
structure Bk (C : Addr) (G : Addr → Prop) (H : Hp) (b l : Addr) (cs : Combs) (past : List Combs) : Prop where
  live : ∀ x, G x → H x ≠ none
  nb : ¬ G b
  nl : ¬ G l
  ins : ∃ dx d, H b = some (.ins C dx [("combs", .ref d), ("past", .ref l)]) ∧ DictR G H d cs
  lst : ∃ vs, H l = some (.lst vs) ∧ PastR G H vs past
  good : Good cs
  goods : ∀ p ∈ past, Good p
  few : past.length ≤ 300
theorem Bk.move {C : Addr} {G : Addr → Prop} {H H' : Hp} {b l : Addr} {cs : Combs} {past : List Combs} (B : Bk C G H b l cs past) (s : ∀ a o, G a ∨ a = b ∨ a = l → H a = some o → H' a = some o) : Bk C G H' b l cs past := by
  have s' : ∀ a o, G a → H a = some o → H' a = some o := fun a o g e => s a o (.inl g) e
  obtain ⟨dx, d, e1, r1⟩ := B.ins
  obtain ⟨vs, e2, r2⟩ := B.lst
  refine ⟨fun x g => ?_, B.nb, B.nl, ⟨dx, d, s _ _ (.inr (.inl rfl)) e1, r1.mono s' fun _ g => g⟩, ⟨vs, s _ _ (.inr (.inr rfl)) e2, ?_⟩, B.good, B.goods, B.few⟩
  · have := B.live x g
    cases e : H x with
    | none => exact absurd e this
    | some o => rw [s' x o g e]; simp
  · exact Paired.mono (fun _ _ ⟨d, e, r⟩ => ⟨d, e, r.mono s' fun _ g => g⟩) r2
theorem Bk.same {C : Addr} {G : Addr → Prop} {H H' : Hp} {b l : Addr} {cs : Combs} {past : List Combs} (B : Bk C G H b l cs past) (s : Same H H') : Bk C G H' b l cs past := B.move fun a o _ e => s a o e
theorem Bk.upd {C : Addr} {G : Addr → Prop} {H : Hp} {b l z : Addr} {o : HO} {cs : Combs} {past : List Combs} (B : Bk C G H b l cs past) (n1 : ¬ G z) (n2 : z ≠ b) (n3 : z ≠ l) : Bk C G (upd H z o) b l cs past :=
  B.move fun a o' g e => by
    rw [upd_ne]
    · exact e
    · intro q
      subst q
      rcases g with g | g | g
      · exact n1 g
      · exact n2 g
      · exact n3 g
theorem Bk.liveB {C : Addr} {G : Addr → Prop} {H : Hp} {b l : Addr} {cs : Combs} {past : List Combs} (B : Bk C G H b l cs past) : H b ≠ none ∧ H l ≠ none := by
  obtain ⟨dx, d, e1, r1⟩ := B.ins
  obtain ⟨vs, e2, r2⟩ := B.lst
  exact ⟨by rw [e1]; simp, by rw [e2]; simp⟩
/-- a deed's move -/
structure Mv (b l : Addr) (G G' : Addr → Prop) (H H' : Hp) : Prop where
  keep : ∀ a o, H a = some o → a ≠ b → a ≠ l → H' a = some o
  on : ∀ a, H a ≠ none → H' a ≠ none
  new : ∀ a, G' a → G a ∨ H a = none
theorem live_same {H H' : Hp} (s : Same H H') : ∀ a, H a ≠ none → H' a ≠ none := fun a h => by
  cases e : H a with
  | none => exact absurd e h
  | some o => rw [s a o e]; simp
theorem Mv.ofSame {b l : Addr} {G : Addr → Prop} {H H' : Hp} (s : Same H H') : Mv b l G G H H' := ⟨fun a o e _ _ => s a o e, live_same s, fun _ g => .inl g⟩
theorem Mv.trans {b l : Addr} {G G1 G2 : Addr → Prop} {H H1 H2 : Hp} (m : Mv b l G G1 H H1) (m' : Mv b l G1 G2 H1 H2) : Mv b l G G2 H H2 := by
  refine ⟨fun a o e n1 n2 => m'.keep a o (m.keep a o e n1 n2) n1 n2, fun a h => m'.on a (m.on a h), fun a g => ?_⟩
  rcases m'.new a g with g1 | e
  · exact m.new a g1
  · refine .inr ?_
    cases q : H a with
    | none => rfl
    | some o => exact absurd e (m.on a (by rw [q]; simp))
/-- what a deed promises, by what is reckoned: the number of the refusal, or the new combs -/
def Deed (ea : Nat → Addr) (C : Addr) (G : Addr → Prop) (H : Hp) (b l : Addr) (cs : Combs) (past : List Combs) (Q : VK) (E : XK) : Except Nat Combs → Prop
  | .error j => ∀ H', Same H H' → E (.ref (ea j)) none H'
  | .ok cs' => ∀ H' G', Mv b l G G' H H' → Bk C G' H' b l cs' (past ++ [cs]) → Q (.int ((past.length : Int) + 1)) H'
theorem Deed.from {ea : Nat → Addr} {C : Addr} {G : Addr → Prop} {H H1 : Hp} {b l : Addr} {cs : Combs} {past : List Combs} {Q : VK} {E : XK} {r : Except Nat Combs} (d : Deed ea C G H b l cs past Q E r) (s : Same H H1) : Deed ea C G H1 b l cs past Q E r := by
  cases r with
  | error j => exact fun H' s' => d H' (s.trans s')
  | ok cs' => exact fun H' G' m B => d H' G' ((Mv.ofSame s).trans m) B
def full (past : List Combs) (cs' : Combs) : Except Nat Combs := if 300 ≤ past.length then .error 9 else .ok cs'
def putD (cs : Combs) (past : List Combs) (x : Str) (ts : List Int) : Except Nat Combs :=
  if isName x = false then .error 0 else if areTeeth ts = false then .error 1 else if (cGet cs x).isSome = true then .error 2 else if 8 ≤ cs.length then .error 3 else full past (cPut cs x (canon ts))
def dropD (cs : Combs) (past : List Combs) (x : Str) : Except Nat Combs := if (cGet cs x).isSome = false then .error 4 else full past (cDrop cs x)
def addD (cs : Combs) (past : List Combs) (x : Str) (t : Int) : Except Nat Combs := match cGet cs x with
  | none => .error 4
  | some ts => if inR t = false then .error 5 else if t ∈ ts then .error 6 else full past (cPut cs x (canon (ts ++ [t])))
def offD (cs : Combs) (past : List Combs) (x : Str) (t : Int) : Except Nat Combs := match cGet cs x with
  | none => .error 4
  | some ts => if inR t = false then .error 5 else if t = 0 then .error 7 else if t ∉ ts then .error 8 else full past (cPut cs x (ts.filter fun u => decide (u ≠ t)))
/-! ## dict(d) -/
theorem call_dictD {X : Cx} : CallR X (.type "dict") (fun xs H Q => ∃ a kvs, xs = [V.ref a] ∧ Rd H a (.dK kvs) ∧ ∀ p, H p = none → Q (.ref p) (upd H p (.dK kvs))) := by
  intro pins s σ H xs us Q I r h
  obtain ⟨a, kvs, rfl, ha, q⟩ := h
  obtain ⟨u, rfl, ru⟩ := vals1 r
  cases ru
  exact d_copyOf I ha fun p s' np I' => ⟨.ref p, _, I', rfl, q p np⟩
end L2

namespace L2
open PySem PySem.Spec PyProof.Rows

theorem Method.mono {P : Program} {w : World} {K : PySem.W.Frag} {mg : Str → Option Value} {base : Heap} {C : Addr} {m : Str} {CX : CXT} {j k : Nat} {ps : List Str} {sp : Sp} (M : Method P w K mg base C m CX j ps sp) (h : j ≤ k) : Method P w K mg base C m CX k ps sp :=
  let ⟨f, fd, F, a, b⟩ := M.ex
  ⟨f, fd, F.mono h, a, b⟩
theorem Callee.mono {P : Program} {w : World} {K : PySem.W.Frag} {mg : Str → Option Value} {base : Heap} {x : Str} {j k : Nat} {ps : List Str} {sp : Sp} (M : Callee P w K mg base x j ps sp) (h : j ≤ k) : Callee P w K mg base x k ps sp :=
  let ⟨f, fd, F, a, b⟩ := M.ex
  ⟨f, fd, F.mono h, a, b⟩
/-! ## Texts in their order -/
def sle (a b : Str) : Prop := a.cps.toList ≤ b.cps.toList
theorem sle_iff {a b : Str} : sle a b ↔ ltCps b.cps.toList a.cps.toList = false := by
  unfold sle
  rw [ltCps_eq, decide_eq_false_iff_not, List.not_lt]
theorem sle_trans {a b c : Str} (h1 : sle a b) (h2 : sle b c) : sle a c := List.le_trans h1 h2
theorem sle_antisymm {a b : Str} (h1 : sle a b) (h2 : sle b a) : a = b := by
  have := List.le_antisymm h1 h2
  cases a; cases b
  simp only at this
  rw [Str.mk.injEq, ← Array.toList_inj]
  exact this
theorem rising_sle : ∀ {l : List Str} {p : Str}, risingS p l = true → (p :: l).Pairwise sle
  | [], p, _ => by simp
  | x :: r, p, h => by
    simp only [risingS, Bool.and_eq_true, Bool.not_eq_true'] at h
    have ih := rising_sle h.2
    have hpx : sle p x := sle_iff.mpr h.1
    refine List.pairwise_cons.mpr ⟨fun y hy => ?_, ih⟩
    rcases List.mem_cons.mp hy with rfl | hm
    · exact hpx
    · exact sle_trans hpx ((List.pairwise_cons.mp ih).1 y hm)
theorem sorted_sle {l : List Str} (h : sortedS l = true) : l.Pairwise sle := by
  cases l with
  | nil => exact List.Pairwise.nil
  | cons x r => exact rising_sle h
theorem strs_same {a b : List Str} (hp : a.Perm b) (ha : sortedS a = true) (hb : sortedS b = true) : a = b :=
  hp.eq_of_pairwise (fun _ _ _ _ h1 h2 => sle_antisymm h1 h2) (sorted_sle ha) (sorted_sle hb)
theorem atI_int {α : Type} {xs : List α} {k : Int} {v : α} (h0 : 0 ≤ k) (h : xs[k.toNat]? = some v) : atI xs k = some v := by
  have e : ((k.toNat : Nat) : Int) = k := by omega
  rw [← e]
  exact atI_nat h
/-! ## The combs that a law keeps in a dict; L: where its lists lie -/
def Kept (L : Addr → Prop) (H : Hp) (a : Addr) (cs : Combs) : Prop := ∃ kvs, H a = some (.dK kvs) ∧ KvR L H kvs cs
theorem Kept.same {L : Addr → Prop} {H H' : Hp} {a : Addr} {cs : Combs} (k : Kept L H a cs) (s : Same H H') : Kept L H' a cs :=
  let ⟨kvs, e, r⟩ := k
  ⟨kvs, s _ _ e, r.mono (fun a o _ e => s a o e) fun _ g => g⟩
theorem Kept.any {L : Addr → Prop} {H : Hp} {a : Addr} {cs : Combs} (k : Kept L H a cs) : Kept (fun _ => True) H a cs :=
  let ⟨kvs, e, r⟩ := k
  ⟨kvs, e, r.mono (fun a o _ e => e) fun _ _ => trivial⟩
theorem KvR.lists {G : Addr → Prop} {H : Hp} {kvs : List (Key × V)} {cs : Combs} (r : KvR G H kvs cs) : KvR (fun t => G t ∧ ∃ xs, H t = Option.some (.lst xs)) H kvs cs :=
  Paired.mono (fun _ _ ⟨t, e, h1, g1⟩ => ⟨t, e, h1, g1, _, h1⟩) r
/-- behind a deed -/
theorem Kept.mv {C b l a : Addr} {G G' : Addr → Prop} {H H' : Hp} {cs cs' : Combs} {past : List Combs} (k : Kept (fun t => t ≠ l) H a cs) (B : Bk C G H b l cs' past) (m : Mv b l G G' H H') : Kept (fun t => t ≠ l) H' a cs := by
  obtain ⟨kvs, e, r⟩ := k
  obtain ⟨dx, d, hb, _⟩ := B.ins
  obtain ⟨vs, hl, _⟩ := B.lst
  refine ⟨kvs, m.keep _ _ e (ne_of e hb (by intro z; cases z)) (ne_of e hl (by intro z; cases z)), ?_⟩
  refine r.lists.mono (fun t o ⟨g, xs, hx⟩ e' => m.keep _ _ e' (ne_of hx hb (by intro z; cases z)) g) fun _ g => g.1
/-- the dict alone is another one -/
theorem KvR.updD {G : Addr → Prop} {H : Hp} {a : Addr} {kvs0 kvs : List (Key × V)} {o : HO} {cs : Combs} (r : KvR G H kvs cs) (ha : H a = Option.some (.dK kvs0)) : KvR G (upd H a o) kvs cs :=
  Paired.mono (fun _ _ ⟨t, e, h1, g1⟩ => ⟨t, e, by rw [upd_ne (ne_of h1 ha (by intro z; cases z))]; exact h1, g1⟩) r
theorem Kept.put {L : Addr → Prop} {H : Hp} {a t : Addr} {cs : Combs} {x : Str} {ts : List Int} (k : Kept L H a cs) (ht : H t = some (.lst (ts.map V.int))) (hL : L t) : ∃ kvs, H a = some (.dK kvs) ∧ kvs.length = cs.length ∧ Kept L (upd H a (.dK (putK kvs (Sum.inr x) (.ref t)))) a (cPut cs x ts) := by
  obtain ⟨kvs, e, r⟩ := k
  exact ⟨kvs, e, r.length, _, upd_same, (r.put ht hL).updD e⟩
theorem Kept.drop {L : Addr → Prop} {H : Hp} {a : Addr} {cs : Combs} {x : Str} (k : Kept L H a cs) : ∃ kvs, H a = some (.dK kvs) ∧ Kept L (upd H a (.dK (dropK kvs (Sum.inr x)))) a (cDrop cs x) := by
  obtain ⟨kvs, e, r⟩ := k
  exact ⟨kvs, e, _, upd_same, r.drop.updD e⟩
theorem Bk.ne {C b l a : Addr} {G : Addr → Prop} {H : Hp} {cs : Combs} {past : List Combs} {kvs : List (Key × V)} (B : Bk C G H b l cs past) (e : H a = some (.dK kvs)) : a ≠ b ∧ a ≠ l := by
  obtain ⟨dx, d, hb, _⟩ := B.ins
  obtain ⟨vs, hl, _⟩ := B.lst
  exact ⟨ne_of e hb (by intro z; cases z), ne_of e hl (by intro z; cases z)⟩
theorem Mv.not {b l a : Addr} {G G' : Addr → Prop} {H H' : Hp} {o : HO} (m : Mv b l G G' H H') (e : H a = some o) (n : ¬ G a) : ¬ G' a := fun g => by
  rcases m.new a g with g | g
  · exact n g
  · rw [e] at g; cases g
theorem get_of_mem : ∀ {cs : Combs} {c : Str × List Int}, (cs.map (·.1)).Nodup → c ∈ cs → cGet cs c.1 = some c.2
  | d :: cs, c, hn, hc => by
    have hn : (d.1 :: cs.map (·.1)).Nodup := hn
    obtain ⟨h1, h2⟩ := List.nodup_cons.mp hn
    rw [get_cons]
    rcases List.mem_cons.mp hc with z | z
    · rw [← z, if_pos rfl]
    · rw [if_neg (fun e : d.1 = c.1 => h1 (by rw [e]; exact List.mem_map.mpr ⟨c, z, rfl⟩))]
      exact get_of_mem h2 z
theorem get_self {cs : Combs} {c : Str × List Int} (g : Good cs) (hc : c ∈ cs) : cGet cs c.1 = some c.2 := get_of_mem g.nd hc
/-! ## Drawn combs as data -/
end L2

namespace L2
open PySem PySem.Spec PyProof.Rows

/-! ## Facts of the text's own classes, looked at once -/
def errNames : List Str := [Str.ofString "BadName", Str.ofString "BadTeeth", Str.ofString "NameTaken", Str.ofString "BookFull", Str.ofString "NoComb", Str.ofString "BadTooth", Str.ofString "ToothThere", Str.ofString "FirstTooth", Str.ofString "ToothMissing", Str.ofString "DeedsFull", Str.ofString "NothingDone", Str.ofString "BadShape", Str.ofString "BadPlace", Str.ofString "BadLength", Str.ofString "NoFilling"]
def errName (j : Nat) : Str := errNames.getD j (Str.ofString "")
def valErr : List Value := [.type "ValueError", .type "Exception", .type "BaseException", .type "object"]
def clsChk (K : PySem.W.Frag) (C : Addr) : Bool := (PySem.W.clsIn K C).isSome && PySem.W.typeIn K (.ref C) == some (.type "type")
def errChk1 (K : PySem.W.Frag) (l : List Addr) (ce : Addr) (D : Addr) (j : Nat) : Bool :=
  (List.range 15).all (fun i => PySem.W.mroIn K D (.ref (l.getD i 0)) == some (i == j)) && (PySem.W.mroIn K D (.ref ce) == some true &&
  (PySem.W.findIn K (.ref D) "__getattribute__" == some (some (.builtin "BaseException.__getattribute__")) && (PySem.W.findIn K (.ref D) "__getattr__" == some none &&
  (PySem.W.findIn K (.ref D) "__class__" == some (some (.builtin "object.__class__")) && (PySem.W.mroIn K D (.type "object") == some true && (PySem.W.mroIn K D (.type "BaseException") == some true && PySem.W.excIn K D valErr "ValueError.__new__"))))))
def errChk (K : PySem.W.Frag) (l : List Addr) (ce : Addr) (js : List Nat) : Bool :=
  (List.range 15).all (fun i => clsChk K (l.getD i 0)) && (clsChk K ce && (PySem.W.mroIn K ce (.type "BaseException") == some true &&
  (PySem.W.specialIn K (.builtin "object.__class__") "__get__" == some (some (.builtin "getset_descriptor.__get__")) && (PySem.W.takesIn K (.builtin "object.__class__") == some true && js.all fun j => errChk1 K l ce (l.getD j 0) j))))
structure KindF (K : PySem.W.Frag) (ea : Nat → Addr) (D : Addr) (j : Nat) : Prop where
  lt : j < 15
  cls : ErrCls K D
  kit : ∀ i, i < 15 → PySem.W.kitOne K (.ref D) (.ref (ea i)) = some (decide (i = j))
/-- a refusal that the law's handler tells -/
structure EJ (K : PySem.W.Frag) (ea : Nat → Addr) (ce : Value) (j : Nat) : Prop where
  kf : KindF K ea (ea j) j
  ex : PySem.W.exmOne K (.ref (ea j)) ce = some true
  exc : PySem.W.excIn K (ea j) valErr "ValueError.__new__" = true
theorem kitCls_of {K : PySem.W.Frag} {D C : Addr} {b : Bool} (h : clsChk K C = true) (m : PySem.W.mroIn K D (.ref C) = some b) : PySem.W.kitCls K (.ref D) (.ref C) = some b := by
  unfold clsChk at h
  simp only [Bool.and_eq_true, beq_iff_eq] at h
  unfold PySem.W.kitCls
  simp only [h.1, h.2]
  rw [if_pos (by decide)]
  exact m
theorem ej_of {K : PySem.W.Frag} {l : List Addr} {ce : Addr} {js : List Nat} {j : Nat} (h : errChk K l ce js = true) (hj : j ∈ js) (hlt : j < 15) : EJ K (fun i => l.getD i 0) (.ref ce) j := by
  unfold errChk at h
  simp only [Bool.and_eq_true, beq_iff_eq, List.all_eq_true, List.mem_range] at h
  obtain ⟨h1, h2, h3, h4, h5, h6⟩ := h
  have h7 := h6 j hj
  unfold errChk1 at h7
  simp only [Bool.and_eq_true, beq_iff_eq, List.all_eq_true, List.mem_range] at h7
  obtain ⟨g1, g2, g3, g4, g5, g6, g7, g8⟩ := h7
  have hc : (PySem.W.clsIn K (l.getD j 0)).isSome = true := by
    have := h1 j hlt
    unfold clsChk at this
    simp only [Bool.and_eq_true] at this
    exact this.1
  refine ⟨⟨hlt, ⟨g3, g4, hc, g5, h4, h5, g6, g7⟩, fun i hi => ?_⟩, ?_, g8⟩
  · have m := g1 i hi
    unfold PySem.W.kitOne
    by_cases e : i = j
    · subst e
      rw [if_pos (beq_self_eq_true _), decide_eq_true rfl]
    · have ne : l.getD j 0 ≠ l.getD i 0 := fun z => by
        have m2 := g1 j hlt
        rw [← z] at m
        rw [m] at m2
        simp [e] at m2
      rw [if_neg (fun z => ne (Value.ref.inj (beq_iff_eq.mp z))), decide_eq_false e]
      have e2 : (i == j) = false := beq_eq_false_iff_ne.mpr e
      rw [e2] at m
      exact kitCls_of (h1 i hi) m
  · unfold PySem.W.exmOne
    rw [if_pos (by rw [show PySem.W.subIn K (.ref ce) (.type "BaseException") = some true from h3]; rfl)]
    exact kitCls_of h2 g2
theorem EJ.err {K : PySem.W.Frag} {mg : Str → Option Value} {ea : Nat → Addr} {ce : Value} {j : Nat} {x : Str} (e : EJ K ea ce j) (hm : mg x = some (.ref (ea j))) : Err K mg x (ea j) := ⟨hm, e.exc⟩
/-! ## The book's class -/
structure BookAt (K : PySem.W.Frag) (C : Addr) : Prop where
  cls : Cls K C
  nc : NoAttr K C "combs"
  np : NoAttr K C "past"
def bookChk (K : PySem.W.Frag) (C : Addr) : Bool := PySem.W.plainGet K C Str.empty && (PySem.W.hasDictIn K C && (PySem.W.plainOver K C && (PySem.W.findIn K (.ref C) "__setattr__" == some (some (.builtin "object.__setattr__")) && (PySem.W.findIn K (.ref C) "combs" == some none && PySem.W.findIn K (.ref C) "past" == some none))))
theorem book_of {K : PySem.W.Frag} {C : Addr} (h : bookChk K C = true) : BookAt K C := by
  unfold bookChk at h
  simp only [Bool.and_eq_true, beq_iff_eq] at h
  obtain ⟨h1, h2, h3, h4, h5, h6⟩ := h
  exact ⟨⟨h1, h2, h3, h4⟩, h5, h6⟩
theorem meth_mk {K : PySem.W.Frag} {C : Addr} {cn m : Str} {st : Stmt} {f : Addr} {oc : Value} {od an : Option Addr} {osl : Array (Option Value)} {kV doc pm cdv ct : Value} (a : PySem.W.findIn K (.ref C) m = some (some (.ref f)))
    (l : K.lookup f = some ⟨oc, od, .func (PySem.W.fnOf m (cn ++ Str.ofString "." ++ m) (defArgs st) (defBody st) (defScope st) .none kV doc pm an cdv ct), osl⟩) (c : PySem.W.codeIn K cdv (cn ++ Str.ofString "." ++ m) = true) (k : PySem.W.keepIn K (.ref f) = true) (i : PySem.W.isFn K (.ref f) = true) : MethAt K C cn m st :=
  ⟨f, _, fun_mk l c k, a, i, k⟩
/-- __init__ -/
structure InitAt (K : PySem.W.Frag) (mg : Str → Option Value) (C : Addr) (x qual : Str) (st : Stmt) : Prop where
  ex : ∃ f fd, Mk K C f ∧ Fun K "__init__" qual st f fd
  m : mg x = some (.ref C)
theorem init_mk {K : PySem.W.Frag} {mg : Str → Option Value} {C : Addr} {x qual : Str} {st : Stmt} {f : Addr} {oc : Value} {od an : Option Addr} {osl : Array (Option Value)} {kV doc pm cdv ct : Value} (hm : mg x = some (.ref C)) (a : PySem.W.findIn K (.ref C) "__init__" = some (some (.ref f)))
    (l : K.lookup f = some ⟨oc, od, .func (PySem.W.fnOf "__init__" qual (defArgs st) (defBody st) (defScope st) .none kV doc pm an cdv ct), osl⟩) (c : PySem.W.codeIn K cdv qual = true) (k : PySem.W.keepIn K (.ref f) = true) (i : PySem.W.isFn K (.ref f) = true) (k2 : PySem.W.keepIn K (.ref C) = true) (mk : PySem.W.makesIn K C = true) : InitAt K mg C x qual st :=
  ⟨⟨f, _, ⟨mk, a, i, k2⟩, fun_mk l c k⟩, hm⟩
theorem ref_mk {K : PySem.W.Frag} {mg : Str → Option Value} {h : Heap} {x : Str} {f : Addr} (X : K.In h) (G : h.Ns mainGlobals mg) (a : PySem.W.nsIn K mainGlobals x = some (some (.ref f))) : mg x = some (.ref f) := PySem.W.mg_of X G a
end L2

namespace L2
open PySem PySem.Spec PyProof.Rows

/-! ## A trail of dicts that a law keeps beside a book -/
theorem Kept.mvL {C b l a : Addr} {L G G' : Addr → Prop} {H H' : Hp} {cs cs' : Combs} {past : List Combs} (hL : ∀ t, L t → t ≠ l) (k : Kept L H a cs) (B : Bk C G H b l cs' past) (m : Mv b l G G' H H') : Kept L H' a cs := by
  obtain ⟨kvs, e, r⟩ := k
  obtain ⟨dx, d, hb, _⟩ := B.ins
  obtain ⟨vs, hl, _⟩ := B.lst
  refine ⟨kvs, m.keep _ _ e (ne_of e hb (by intro z; cases z)) (ne_of e hl (by intro z; cases z)), ?_⟩
  exact r.lists.mono (fun t o ⟨g, xs, hx⟩ e' => m.keep _ _ e' (ne_of hx hb (by intro z; cases z)) (hL t g)) fun _ g => g.1
theorem Kept.updL {L : Addr → Prop} {H : Hp} {a p : Addr} {cs : Combs} {xs : List V} {o : HO} (k : Kept L H a cs) (hL : ∀ t, L t → t ≠ p) (hp : H p = some (.lst xs)) : Kept L (upd H p o) a cs := by
  obtain ⟨kvs, e, r⟩ := k
  refine ⟨kvs, by rw [upd_ne (ne_of e hp (by intro z; cases z))]; exact e, ?_⟩
  exact r.mono (fun t o' g e' => by rw [upd_ne (hL t g)]; exact e') fun _ g => g
/-- another dict is another one -/
theorem Kept.updD {L : Addr → Prop} {H : Hp} {a p : Addr} {cs : Combs} {kvs0 : List (Key × V)} {o : HO} (k : Kept L H a cs) (hn : a ≠ p) (hp : H p = some (.dK kvs0)) : Kept L (upd H p o) a cs := by
  obtain ⟨kvs, e, r⟩ := k
  exact ⟨kvs, by rw [upd_ne hn]; exact e, r.updD hp⟩
def Trail (L G : Addr → Prop) (H : Hp) : List V → List Combs → Prop := Paired fun v cs => ∃ z, v = V.ref z ∧ Kept L H z cs ∧ ¬ G z
theorem Trail.same {L G : Addr → Prop} {H H' : Hp} {vs : List V} {css : List Combs} (t : Trail L G H vs css) (s : Same H H') : Trail L G H' vs css := Paired.mono (fun _ _ ⟨z, e, k, n⟩ => ⟨z, e, k.same s, n⟩) t
theorem Trail.mv {C b l : Addr} {L G G' : Addr → Prop} {H H' : Hp} {cs' : Combs} {past : List Combs} {vs : List V} {css : List Combs} (t : Trail L G H vs css) (hL : ∀ t, L t → t ≠ l) (B : Bk C G H b l cs' past) (m : Mv b l G G' H H') : Trail L G' H' vs css :=
  Paired.mono (fun _ _ ⟨z, e, k, n⟩ => ⟨z, e, k.mvL hL B m, let ⟨_, hz, _⟩ := k; m.not hz n⟩) t
theorem Trail.updL {L G : Addr → Prop} {H : Hp} {p : Addr} {xs : List V} {o : HO} {vs : List V} {css : List Combs} (t : Trail L G H vs css) (hL : ∀ t, L t → t ≠ p) (hp : H p = some (.lst xs)) : Trail L G (upd H p o) vs css :=
  Paired.mono (fun _ _ ⟨z, e, k, n⟩ => ⟨z, e, k.updL hL hp, n⟩) t
theorem trail_last {α β : Type} {R : α → β → Prop} : ∀ {l : List α} {ps : List β} {p : β}, Paired R l (ps ++ [p]) → ∃ l' a, l = l' ++ [a] ∧ Paired R l' ps ∧ R a p
  | _, [], p, .cons h .nil => ⟨[], _, rfl, .nil, h⟩
  | _, q :: ps, p, .cons h r => by
    obtain ⟨l', a, e, r', ha⟩ := trail_last (ps := ps) r
    exact ⟨_ :: l', a, by rw [e]; rfl, .cons h r', ha⟩
theorem at_last {α : Type} (l : List α) (a : α) : atI (l ++ [a]) (-1) = some a := by
  unfold atI ixN
  rw [if_neg (by decide), if_pos (by rw [List.length_append, List.length_singleton]; omega)]
  have e : ((-1 : Int) + (((l ++ [a]).length : Nat) : Int)).toNat = l.length := by rw [List.length_append, List.length_singleton]; omega
  rw [e]
  simp
theorem put_names {cs : Combs} {x : Str} {ts : List Int} : ∀ c ∈ cPut cs x ts, c.1 = x ∨ c.1 ∈ cs.map (·.1) := by
  intro c hc
  cases e : cGet cs x with
  | none =>
    rw [put_new e] at hc
    rcases List.mem_append.mp hc with z | z
    · exact .inr (List.mem_map.mpr ⟨c, z, rfl⟩)
    · rw [List.mem_singleton.mp z]; exact .inl rfl
  | some us =>
    have : c.1 ∈ (cPut cs x ts).map (·.1) := List.mem_map.mpr ⟨c, hc, rfl⟩
    rw [put_keys e] at this
    exact .inr this
end L2

namespace L2
open PySem PySem.Spec PyProof.Rows

/-! ## xs.count(n) -/
section
variable {X : Cx}
def rCount (K : PySem.W.Frag) : V → List V → Hp → VK → Prop := fun x vs H Q => ∃ (l : Addr) (ns : List Int) (k : Int), x = .ref l ∧ vs = [.int k] ∧ SqL K H l (ns.map V.int) ∧ Q (.int ((ns.count k : Nat) : Int)) H
theorem mt_count : MtM X "list.count" (rCount X.K) := by
  intro pins s σ H x vs v us Q I rx rv h
  obtain ⟨l, ns, k, rfl, rfl, hq, q⟩ := h
  cases rx
  obtain ⟨u, rfl, ru⟩ := rv.one
  obtain ⟨t, rfl⟩ := ru
  obtain ⟨its, r, p, hz⟩ := I.list hq
  exact count_list_ints p.isList (ints_are r) ⟨.int _, H, I.tok _, ⟨_, rfl⟩, q⟩
theorem mt_count' (K : PySem.W.Frag) (h : X.K = K) : MtM X "list.count" (rCount K) := by subst h; exact mt_count
end
section
variable {X : Cx} {T id : String} {name : Str} {r : V → List V → Hp → VK → Prop} {o e : Expr} {es : List Expr} {to : TE} {t : TA} {apos cpos : Pos}
theorem pe_bm' (K : PySem.W.Frag) (hK : X.K = K) (pa : PlainAttrs T) (slot : Slot T name id) (hty : typeOf (.builtin id) = pure (.type "method_descriptor")) (hm : MtR X id r) (ho : PE X o to) (ha : PA X (e :: es) t)
    (hbase : attributeBase o name X.env (eval o X.env) = eval o X.env := by rfl)
    (hfew : ((backTo cpos (starEach (e :: es) X.env)).all (fun x => !x.1) && (backToKw cpos (keywordEach [] X.env)).all (fun x => x.1.isSome)
      && decide ((e :: es).length + ([] : List Keyword).length + (if ([] : List Keyword).isEmpty then 0 else 1) < 30)) = true := by rfl)
    (hline : (apos.endLine == cpos.line) = true := by rfl) (hs : starEach (e :: es) X.env = (false, eval e X.env) :: starEach es X.env := by rfl) (hplain : (backTo cpos (starEach es X.env)).any (·.1) = false := by rfl) :
    PE X (.Call (.Attribute o name apos) (e :: es) [] cpos) (tBM K T r to t) := by
  subst hK
  exact pe_bm pa slot hty hm ho ha hbase hfew hline hs hplain
end
/-! ## displays of dicts, wrapped -/
structure QP (X : Cx) (pos : Pos) (keys : List (Option Expr)) (values : List Expr) (trs : List (TE × TE)) : Prop where h : PPs X pos keys values trs
theorem qp_nil {X : Cx} {pos : Pos} : QP X pos [] [] [] := ⟨pps_nil⟩
theorem qp_cons {X : Cx} {pos : Pos} {k v : Expr} {ks : List (Option Expr)} {vs : List Expr} {tk tv : TE} {trs : List (TE × TE)} (hk : QE X k tk) (hv : QE X v tv) (hr : QP X pos ks vs trs) : QP X pos (some k :: ks) (v :: vs) ((tk, tv) :: trs) := ⟨pps_cons hk.h hv.h hr.h⟩
theorem qe_disp {X : Cx} {pos : Pos} {keys : List (Option Expr)} {values : List Expr} {trs : List (TE × TE)} (h : QP X pos keys values trs) (hall : keys.all (·.isSome) = true) (hl : keys.length = values.length) (h0 : keys ≠ []) (h15 : keys.length ≤ 15) : QE X (.Dict keys values pos) (tDisp trs) := ⟨pe_disp h.h hall hl h0 h15⟩
theorem teeth_count (ts : List Int) : (!decide (0 < ((ts.filter fun t => !inR t).length : Int)) && (decide (((ts.count 0 : Nat) : Int) = 1) && (List.range 8).all fun t => decide (((ts.count ((t : Nat) : Int) : Nat) : Int) ≤ 1))) = areTeeth ts := by
  rw [Bool.eq_iff_iff, teeth_iff]
  simp only [Bool.and_eq_true, Bool.not_eq_true', decide_eq_false_iff_not, decide_eq_true_eq, List.all_eq_true, List.mem_range]
  constructor
  · rintro ⟨h1, h2, h3⟩
    have hr : ∀ t ∈ ts, 0 ≤ t ∧ t ≤ 7 := fun t ht => by
      apply Classical.byContradiction
      intro hn
      apply h1
      have : t ∈ ts.filter fun t => !inR t := List.mem_filter.mpr ⟨ht, by
        have : inR t = false := by rw [Bool.eq_false_iff]; exact fun z => hn (inR_iff.mp z)
        rw [this]; rfl⟩
      have := List.length_pos_of_mem this
      omega
    refine ⟨List.count_pos_iff.mp (by omega), List.nodup_iff_count.mpr fun t => ?_, hr⟩
    by_cases ht : t ∈ ts
    · obtain ⟨h0, h7⟩ := hr t ht
      have := h3 t.toNat (by omega)
      rw [show ((t.toNat : Nat) : Int) = t by omega] at this
      omega
    · rw [List.count_eq_zero.mpr ht]; omega
  · rintro ⟨h0, hn, hr⟩
    have hc := List.nodup_iff_count.mp hn
    refine ⟨?_, ?_, fun t _ => by have := hc ((t : Nat) : Int); omega⟩
    · have : ts.filter (fun t => !inR t) = [] := List.filter_eq_nil_iff.mpr fun t ht => by rw [inR_iff.mpr (hr t ht)]; simp
      rw [this]; simp
    · have := List.count_pos_iff.mpr h0
      have := hc 0
      omega
theorem name_filter (x : Str) : (decide ((1 : Int) ≤ (x.length : Int)) && (decide ((x.length : Int) ≤ 6) && decide (((x.cps.toList.filter small).length : Int) = (x.length : Int)))) = isName x := by
  have e : decide (((x.cps.toList.filter small).length : Int) = (x.length : Int)) = x.cps.toList.all small := by
    rw [Bool.eq_iff_iff, decide_eq_true_eq, List.all_eq_true, ← txt_len]
    constructor
    · intro h
      have h' : (x.cps.toList.filter small).length = x.cps.toList.length := by omega
      exact List.length_filter_eq_length_iff.mp h'
    · intro h
      rw [List.filter_eq_self.mpr h]
  unfold isName
  rw [e, ← Bool.and_assoc]
  congr 2 <;> (rw [decide_eq_decide]; omega)
end L2

set_option maxHeartbeats 4000000
namespace K08
open PySem L2 PyProof.Rows
def top (i : Nat) : Stmt := PySem.Challenge.pw_combstrip_k08_deeds_bound.main.body.getD i (.Pass ⟨0, 0, 0, 0⟩)
abbrev s_is_name : Stmt := top 5
abbrev s_is_small_letter : Stmt := top 6
abbrev s_are_teeth : Stmt := top 7
abbrev s_Book___init__ : Stmt := inClass (top 26) 0
abbrev s_Book_put : Stmt := inClass (top 26) 1
abbrev s_Book_drop : Stmt := inClass (top 26) 2
abbrev s_Book_add_tooth : Stmt := inClass (top 26) 3
abbrev s_Book_take_off : Stmt := inClass (top 26) 4
abbrev s_Book_undo : Stmt := inClass (top 26) 5
abbrev s_Book_deeds : Stmt := inClass (top 26) 6
abbrev s_Book_names : Stmt := inClass (top 26) 7
abbrev s_Book_teeth : Stmt := inClass (top 26) 8
abbrev s_Book_check_comb : Stmt := inClass (top 26) 9
abbrev s_Book_set_comb : Stmt := inClass (top 26) 10
abbrev s_Book_do_deed : Stmt := inClass (top 26) 11
abbrev s_check_tooth : Stmt := top 27
abbrev s_at : Stmt := top 29
abbrev s_book : Stmt := top 30
abbrev s_kind : Stmt := top 31
abbrev s_whole : Stmt := top 32
abbrev s_told : Stmt := top 33
abbrev s_refused : Stmt := top 34
abbrev s_numbers : Stmt := top 35
abbrev s_texts : Stmt := top 36
abbrev s_same : Stmt := top 37
abbrev s_isname : Stmt := top 38
abbrev s_isteeth : Stmt := top 39
abbrev s_do : Stmt := top 40
abbrev s_due : Stmt := top 41
abbrev s_done : Stmt := top 42
abbrev s_filled : Stmt := top 43
abbrev s_law : Stmt := top 44
section
variable {P : Program} {w : World} {K : PySem.W.Frag} {mg : Str → Option Value} {base : Heap}
/-! ### which refusal it is -/
structure Ea (mg : Str → Option Value) (ea : Nat → Addr) : Prop where
  n0 : mg "BadName" = some (.ref (ea 0))
  n1 : mg "BadTeeth" = some (.ref (ea 1))
  n2 : mg "NameTaken" = some (.ref (ea 2))
  n3 : mg "BookFull" = some (.ref (ea 3))
  n4 : mg "NoComb" = some (.ref (ea 4))
  n5 : mg "BadTooth" = some (.ref (ea 5))
  n6 : mg "ToothThere" = some (.ref (ea 6))
  n7 : mg "FirstTooth" = some (.ref (ea 7))
  n8 : mg "ToothMissing" = some (.ref (ea 8))
  n9 : mg "DeedsFull" = some (.ref (ea 9))
  n10 : mg "NothingDone" = some (.ref (ea 10))
  n11 : mg "BadShape" = some (.ref (ea 11))
  n12 : mg "BadPlace" = some (.ref (ea 12))
  n13 : mg "BadLength" = some (.ref (ea 13))
  n14 : mg "NoFilling" = some (.ref (ea 14))
def spKind (K : PySem.W.Frag) (ea : Nat → Addr) : Addr → Value → Sp := fun e c vs H Q _ => vs = [.ref e] ∧ ∃ D j, c = .ref D ∧ KindF K ea D j ∧ ∀ p H', Same H H' → H p = none → H' p = some (.lst [.str (errName j)]) → Q (.ref p) H'
def kb (j i : Nat) : V := .bl (decide (i = j))
def kBools (j : Nat) : List V := (List.range 15).map (kb j)
theorem kBools_eq (j : Nat) : kBools j = [kb j 0, kb j 1, kb j 2, kb j 3, kb j 4, kb j 5, kb j 6, kb j 7, kb j 8, kb j 9, kb j 10, kb j 11, kb j 12, kb j 13, kb j 14] := rfl
def isJ (j : Nat) (v : V) : Bool := match v with
  | .int t => decide (t.toNat = j)
  | _ => false
def wordJ (v : V) : V := match v with
  | .int t => .str (errName t.toNat)
  | _ => .non
theorem kind_res {j : Nat} (h : j < 15) : (((List.range (15 : Int).toNat).map fun i => V.int (0 + ((i : Nat) : Int))).filter (isJ j)).map wordJ = [.str (errName j)] := by
  have all : ∀ j ∈ List.range 15, (((List.range (15 : Int).toNat).map fun i => V.int (0 + ((i : Nat) : Int))).filter (isJ j)).map wordJ = [.str (errName j)] := by decide +kernel
  exact all j (List.mem_range.mpr h)
theorem sc_kind : FnScope ["_law_e", "_law_is_one", "_law_words"] ["_law_e"] (defScope s_kind) := ⟨rfl, rfl, rfl, by decide +kernel, rfl, by decide +kernel, by decide +kernel⟩
theorem ok_kind (D : DefAt K mg "_law_kind" s_kind) (T : Bn mg) {ea : Nat → Addr} (EA : Ea mg ea) : HCallee P w K mg base "_law_kind" 1 ["_law_e"] (spKind K ea) := by
  have V_BadName := EA.n0
  have V_BadTeeth := EA.n1
  have V_NameTaken := EA.n2
  have V_BookFull := EA.n3
  have V_NoComb := EA.n4
  have V_BadTooth := EA.n5
  have V_ToothThere := EA.n6
  have V_FirstTooth := EA.n7
  have V_ToothMissing := EA.n8
  have V_DeedsFull := EA.n9
  have V_NothingDone := EA.n10
  have V_BadShape := EA.n11
  have V_BadPlace := EA.n12
  have V_BadLength := EA.n13
  have V_NoFilling := EA.n14
  refine D.hcalleeQ sc_kind (fun _ _ _ _ _ _ us hl => match us, hl with | [_], _ => rfl) (fun e c vs H Q E h => ?_) (fun f cdv A outer s H vs Q e oe c ws hc hd hq h => ?_)
  · obtain ⟨rfl, _⟩ := h
    rfl
  · obtain ⟨rfl, D, j, rfl, F, q⟩ := h
    have S := sc_kind
    have pin : (e, oe) ∈ (cxH P w K mg base ["_law_e", "_law_is_one", "_law_words"] "_law_kind" (defScope s_kind) f cdv A outer s H e oe).pn ∧ (oe.cls = .ref D ∧ oe.dict = none) ∧ ∃ vs, oe.data = .fields vs := ⟨List.mem_singleton.mpr rfl, hc, ws, hd⟩
    refine ⟨_, qss_cons (qs_set (i := 1) S.nd rfl (Or.inr rfl) (qe_lst (qa_cons (qe (pe_callB call_isx rfl T.n_isinstance boot_isinstance (pa_cons (pv 0) (pa_cons (pe_cls rfl V_BadName) pa_nil)))) (qa_cons (qe (pe_callB call_isx rfl T.n_isinstance boot_isinstance (pa_cons (pv 0) (pa_cons (pe_cls rfl V_BadTeeth) pa_nil)))) (qa_cons (qe (pe_callB call_isx rfl T.n_isinstance boot_isinstance (pa_cons (pv 0) (pa_cons (pe_cls rfl V_NameTaken) pa_nil)))) (qa_nil))))))
    (qss_cons (qs_set (i := 1) S.nd rfl (Or.inr rfl) (qe_op op_cat (qe (pv 1)) (qe_lst (qa_cons (qe (pe_callB call_isx rfl T.n_isinstance boot_isinstance (pa_cons (pv 0) (pa_cons (pe_cls rfl V_BookFull) pa_nil)))) (qa_cons (qe (pe_callB call_isx rfl T.n_isinstance boot_isinstance (pa_cons (pv 0) (pa_cons (pe_cls rfl V_NoComb) pa_nil)))) (qa_cons (qe (pe_callB call_isx rfl T.n_isinstance boot_isinstance (pa_cons (pv 0) (pa_cons (pe_cls rfl V_BadTooth) pa_nil)))) (qa_nil)))))))
    (qss_cons (qs_set (i := 1) S.nd rfl (Or.inr rfl) (qe_op op_cat (qe (pv 1)) (qe_lst (qa_cons (qe (pe_callB call_isx rfl T.n_isinstance boot_isinstance (pa_cons (pv 0) (pa_cons (pe_cls rfl V_ToothThere) pa_nil)))) (qa_cons (qe (pe_callB call_isx rfl T.n_isinstance boot_isinstance (pa_cons (pv 0) (pa_cons (pe_cls rfl V_FirstTooth) pa_nil)))) (qa_nil))))))
    (qss_cons (qs_set (i := 1) S.nd rfl (Or.inr rfl) (qe_op op_cat (qe (pv 1)) (qe_lst (qa_cons (qe (pe_callB call_isx rfl T.n_isinstance boot_isinstance (pa_cons (pv 0) (pa_cons (pe_cls rfl V_ToothMissing) pa_nil)))) (qa_cons (qe (pe_callB call_isx rfl T.n_isinstance boot_isinstance (pa_cons (pv 0) (pa_cons (pe_cls rfl V_DeedsFull) pa_nil)))) (qa_nil))))))
    (qss_cons (qs_set (i := 1) S.nd rfl (Or.inr rfl) (qe_op op_cat (qe (pv 1)) (qe_lst (qa_cons (qe (pe_callB call_isx rfl T.n_isinstance boot_isinstance (pa_cons (pv 0) (pa_cons (pe_cls rfl V_NothingDone) pa_nil)))) (qa_cons (qe (pe_callB call_isx rfl T.n_isinstance boot_isinstance (pa_cons (pv 0) (pa_cons (pe_cls rfl V_BadShape) pa_nil)))) (qa_nil))))))
    (qss_cons (qs_set (i := 1) S.nd rfl (Or.inr rfl) (qe_op op_cat (qe (pv 1)) (qe_lst (qa_cons (qe (pe_callB call_isx rfl T.n_isinstance boot_isinstance (pa_cons (pv 0) (pa_cons (pe_cls rfl V_BadPlace) pa_nil)))) (qa_cons (qe (pe_callB call_isx rfl T.n_isinstance boot_isinstance (pa_cons (pv 0) (pa_cons (pe_cls rfl V_BadLength) pa_nil)))) (qa_cons (qe (pe_callB call_isx rfl T.n_isinstance boot_isinstance (pa_cons (pv 0) (pa_cons (pe_cls rfl V_NoFilling) pa_nil)))) (qa_nil)))))))
    (qss_cons (qs_set (i := 2) S.nd rfl (Or.inr rfl) (qe_lst (qa_cons (qe (pe_str)) (qa_cons (qe (pe_str)) (qa_cons (qe (pe_str)) (qa_cons (qe (pe_str)) (qa_cons (qe (pe_str)) (qa_cons (qe (pe_str)) (qa_cons (qe (pe_str)) (qa_nil))))))))))
    (qss_cons (qs_set (i := 2) S.nd rfl (Or.inr rfl) (qe_op op_cat (qe (pv 2)) (qe_lst (qa_cons (qe (pe_str)) (qa_cons (qe (pe_str)) (qa_cons (qe (pe_str)) (qa_cons (qe (pe_str)) (qa_cons (qe (pe_str)) (qa_nil)))))))))
    (qss_cons (qs_set (i := 2) S.nd rfl (Or.inr rfl) (qe_op op_cat (qe (pv 2)) (qe_lst (qa_cons (qe (pe_str)) (qa_cons (qe (pe_str)) (qa_cons (qe (pe_str)) (qa_nil)))))))
    (qss_one (qs_ret (qe (pe_compq (own := ["_law_k"]) (caps := [(1, "_law_is_one"), (2, "_law_words")]) (QH e oe) (fun _ _ _ _ _ _ => hq.comp) ⟨rfl, rfl, rfl, rfl, ⟨⟨rfl, rfl, .inl rfl⟩, ⟨rfl, rfl, .inl rfl⟩, trivial⟩⟩ (pi_range1q rfl T.n_range (pa_cons (pe_int) pa_nil)) (fun _ _ _ _ _ _ => pg_name (i := 0) (nd_comp (by decide +kernel)) rfl (Or.inl rfl)) (fun _ _ _ _ _ _ => pts_one (pt_val (pe_ix (ix_list' K rfl) (pv 1) (pv 0) (fun _ _ => rfl)))) (fun _ _ _ _ _ _ => pe_ix (ix_list' K rfl) (pv 2) (pv 0) (fun _ _ => rfl)))))))))))))), ?_⟩
    have M : Same H H := Same.refl H
    refine ⟨_, rfl, _, _, D, oe, _, rfl, pin, F.cls, F.kit 0 (by decide), _, rfl, _, _, D, oe, _, rfl, pin, F.cls, F.kit 1 (by decide), _, rfl, _, _, D, oe, _, rfl, pin, F.cls, F.kit 2 (by decide), bigr rfl, fun a0 na => ?_⟩
    obtain ⟨M, e1⟩ := M.lstE (o := .lst [kb j 0, kb j 1, kb j 2]) na
    clear na
    refine ⟨_, rfl, _, rfl, _, _, D, oe, _, rfl, pin, F.cls, F.kit 3 (by decide), _, rfl, _, _, D, oe, _, rfl, pin, F.cls, F.kit 4 (by decide), _, rfl, _, _, D, oe, _, rfl, pin, F.cls, F.kit 5 (by decide), bigr rfl, fun a1 na => ?_⟩
    obtain ⟨M, e2⟩ := M.lstE (o := .lst [kb j 3, kb j 4, kb j 5]) na
    replace e1 := keepL (o := .lst [kb j 3, kb j 4, kb j 5]) e1 na
    clear na
    refine ⟨_, _, _, _, rfl, rfl, e1, e2, bigr rfl, fun c1 nc => ?_⟩
    obtain ⟨M, e1⟩ := M.lstE (o := .lst [kb j 0, kb j 1, kb j 2, kb j 3, kb j 4, kb j 5]) nc
    clear nc e2
    refine ⟨_, rfl, _, rfl, _, _, D, oe, _, rfl, pin, F.cls, F.kit 6 (by decide), _, rfl, _, _, D, oe, _, rfl, pin, F.cls, F.kit 7 (by decide), bigr rfl, fun a2 na => ?_⟩
    obtain ⟨M, e2⟩ := M.lstE (o := .lst [kb j 6, kb j 7]) na
    replace e1 := keepL (o := .lst [kb j 6, kb j 7]) e1 na
    clear na
    refine ⟨_, _, _, _, rfl, rfl, e1, e2, bigr rfl, fun c2 nc => ?_⟩
    obtain ⟨M, e1⟩ := M.lstE (o := .lst [kb j 0, kb j 1, kb j 2, kb j 3, kb j 4, kb j 5, kb j 6, kb j 7]) nc
    clear nc e2
    refine ⟨_, rfl, _, rfl, _, _, D, oe, _, rfl, pin, F.cls, F.kit 8 (by decide), _, rfl, _, _, D, oe, _, rfl, pin, F.cls, F.kit 9 (by decide), bigr rfl, fun a3 na => ?_⟩
    obtain ⟨M, e2⟩ := M.lstE (o := .lst [kb j 8, kb j 9]) na
    replace e1 := keepL (o := .lst [kb j 8, kb j 9]) e1 na
    clear na
    refine ⟨_, _, _, _, rfl, rfl, e1, e2, bigr rfl, fun c3 nc => ?_⟩
    obtain ⟨M, e1⟩ := M.lstE (o := .lst [kb j 0, kb j 1, kb j 2, kb j 3, kb j 4, kb j 5, kb j 6, kb j 7, kb j 8, kb j 9]) nc
    clear nc e2
    refine ⟨_, rfl, _, rfl, _, _, D, oe, _, rfl, pin, F.cls, F.kit 10 (by decide), _, rfl, _, _, D, oe, _, rfl, pin, F.cls, F.kit 11 (by decide), bigr rfl, fun a4 na => ?_⟩
    obtain ⟨M, e2⟩ := M.lstE (o := .lst [kb j 10, kb j 11]) na
    replace e1 := keepL (o := .lst [kb j 10, kb j 11]) e1 na
    clear na
    refine ⟨_, _, _, _, rfl, rfl, e1, e2, bigr rfl, fun c4 nc => ?_⟩
    obtain ⟨M, e1⟩ := M.lstE (o := .lst [kb j 0, kb j 1, kb j 2, kb j 3, kb j 4, kb j 5, kb j 6, kb j 7, kb j 8, kb j 9, kb j 10, kb j 11]) nc
    clear nc e2
    refine ⟨_, rfl, _, rfl, _, _, D, oe, _, rfl, pin, F.cls, F.kit 12 (by decide), _, rfl, _, _, D, oe, _, rfl, pin, F.cls, F.kit 13 (by decide), _, rfl, _, _, D, oe, _, rfl, pin, F.cls, F.kit 14 (by decide), bigr rfl, fun a5 na => ?_⟩
    obtain ⟨M, e2⟩ := M.lstE (o := .lst [kb j 12, kb j 13, kb j 14]) na
    replace e1 := keepL (o := .lst [kb j 12, kb j 13, kb j 14]) e1 na
    clear na
    refine ⟨_, _, _, _, rfl, rfl, e1, e2, bigr rfl, fun c5 nc => ?_⟩
    obtain ⟨M, e1⟩ := M.lstE (o := .lst [kb j 0, kb j 1, kb j 2, kb j 3, kb j 4, kb j 5, kb j 6, kb j 7, kb j 8, kb j 9, kb j 10, kb j 11, kb j 12, kb j 13, kb j 14]) nc
    clear nc e2
    refine ⟨bigr rfl, fun w0 nw => ?_⟩
    obtain ⟨M, f1⟩ := M.lstE (o := .lst [V.str (Str.ofString "BadName"), V.str (Str.ofString "BadTeeth"), V.str (Str.ofString "NameTaken"), V.str (Str.ofString "BookFull"), V.str (Str.ofString "NoComb"), V.str (Str.ofString "BadTooth"), V.str (Str.ofString "ToothThere")]) nw
    replace e1 := keepL (o := .lst [V.str (Str.ofString "BadName"), V.str (Str.ofString "BadTeeth"), V.str (Str.ofString "NameTaken"), V.str (Str.ofString "BookFull"), V.str (Str.ofString "NoComb"), V.str (Str.ofString "BadTooth"), V.str (Str.ofString "ToothThere")]) e1 nw
    clear nw
    refine ⟨_, rfl, bigr rfl, fun w1 nw => ?_⟩
    obtain ⟨M, f2⟩ := M.lstE (o := .lst [V.str (Str.ofString "FirstTooth"), V.str (Str.ofString "ToothMissing"), V.str (Str.ofString "DeedsFull"), V.str (Str.ofString "NothingDone"), V.str (Str.ofString "BadShape")]) nw
    replace e1 := keepL (o := .lst [V.str (Str.ofString "FirstTooth"), V.str (Str.ofString "ToothMissing"), V.str (Str.ofString "DeedsFull"), V.str (Str.ofString "NothingDone"), V.str (Str.ofString "BadShape")]) e1 nw
    replace f1 := keepL (o := .lst [V.str (Str.ofString "FirstTooth"), V.str (Str.ofString "ToothMissing"), V.str (Str.ofString "DeedsFull"), V.str (Str.ofString "NothingDone"), V.str (Str.ofString "BadShape")]) f1 nw
    clear nw
    refine ⟨_, _, _, _, rfl, rfl, f1, f2, bigr rfl, fun x1 nx => ?_⟩
    obtain ⟨M, f1⟩ := M.lstE (o := .lst [V.str (Str.ofString "BadName"), V.str (Str.ofString "BadTeeth"), V.str (Str.ofString "NameTaken"), V.str (Str.ofString "BookFull"), V.str (Str.ofString "NoComb"), V.str (Str.ofString "BadTooth"), V.str (Str.ofString "ToothThere"), V.str (Str.ofString "FirstTooth"), V.str (Str.ofString "ToothMissing"), V.str (Str.ofString "DeedsFull"), V.str (Str.ofString "NothingDone"), V.str (Str.ofString "BadShape")]) nx
    replace e1 := keepL (o := .lst [V.str (Str.ofString "BadName"), V.str (Str.ofString "BadTeeth"), V.str (Str.ofString "NameTaken"), V.str (Str.ofString "BookFull"), V.str (Str.ofString "NoComb"), V.str (Str.ofString "BadTooth"), V.str (Str.ofString "ToothThere"), V.str (Str.ofString "FirstTooth"), V.str (Str.ofString "ToothMissing"), V.str (Str.ofString "DeedsFull"), V.str (Str.ofString "NothingDone"), V.str (Str.ofString "BadShape")]) e1 nx
    clear nx f2
    refine ⟨_, rfl, bigr rfl, fun w2 nw => ?_⟩
    obtain ⟨M, f2⟩ := M.lstE (o := .lst [V.str (Str.ofString "BadPlace"), V.str (Str.ofString "BadLength"), V.str (Str.ofString "NoFilling")]) nw
    replace e1 := keepL (o := .lst [V.str (Str.ofString "BadPlace"), V.str (Str.ofString "BadLength"), V.str (Str.ofString "NoFilling")]) e1 nw
    replace f1 := keepL (o := .lst [V.str (Str.ofString "BadPlace"), V.str (Str.ofString "BadLength"), V.str (Str.ofString "NoFilling")]) f1 nw
    clear nw
    refine ⟨_, _, _, _, rfl, rfl, f1, f2, bigr rfl, fun x2 nx => ?_⟩
    obtain ⟨M, f1⟩ := M.lstE (o := .lst [V.str (Str.ofString "BadName"), V.str (Str.ofString "BadTeeth"), V.str (Str.ofString "NameTaken"), V.str (Str.ofString "BookFull"), V.str (Str.ofString "NoComb"), V.str (Str.ofString "BadTooth"), V.str (Str.ofString "ToothThere"), V.str (Str.ofString "FirstTooth"), V.str (Str.ofString "ToothMissing"), V.str (Str.ofString "DeedsFull"), V.str (Str.ofString "NothingDone"), V.str (Str.ofString "BadShape"), V.str (Str.ofString "BadPlace"), V.str (Str.ofString "BadLength"), V.str (Str.ofString "NoFilling")]) nx
    replace e1 := keepL (o := .lst [V.str (Str.ofString "BadName"), V.str (Str.ofString "BadTeeth"), V.str (Str.ofString "NameTaken"), V.str (Str.ofString "BookFull"), V.str (Str.ofString "NoComb"), V.str (Str.ofString "BadTooth"), V.str (Str.ofString "ToothThere"), V.str (Str.ofString "FirstTooth"), V.str (Str.ofString "ToothMissing"), V.str (Str.ofString "DeedsFull"), V.str (Str.ofString "NothingDone"), V.str (Str.ofString "BadShape"), V.str (Str.ofString "BadPlace"), V.str (Str.ofString "BadLength"), V.str (Str.ofString "NoFilling")]) e1 nx
    clear nx f2
    refine ⟨_, rfl, by decide, by decide, fun Dc hD => ?_⟩
    refine comp_s (capv := [some (.ref c5), some (.ref x2)]) (by rfl) (gives_range 0 (15 : Int).toNat) (bigr rfl) hD ?_ (isJ j) wordJ ?_ ?_ ?_
    · exact fun _ _ => trivial
    · intro v hv H' R s' h
      obtain ⟨t, ht, rfl⟩ := List.mem_map.mp hv
      have ht15 : t < 15 := List.mem_range.mp ht
      refine ⟨_, rfl, _, rfl, _, _, _, _, rfl, rfl, SqL.of (s' _ _ e1), (?_ : atI (kBools j) (0 + ((t : Nat) : Int)) = some (kb j t)), _, rfl, ?_⟩
      · rw [Int.zero_add]
        refine atI_nat ?_
        unfold kBools
        rw [List.getElem?_map, List.getElem?_range ht15]
        rfl
      · have e : isJ j (.int (0 + ((t : Nat) : Int))) = decide (t = j) := by
          show decide ((0 + ((t : Nat) : Int)).toNat = j) = _
          rw [Int.zero_add, Int.toNat_natCast]
        have h := h H' (Same.refl _)
        rw [e] at h
        exact h
    · intro v hv hp H' R s' h
      obtain ⟨t, ht, rfl⟩ := List.mem_map.mp hv
      have ht15 : t < 15 := List.mem_range.mp ht
      refine ⟨_, rfl, _, rfl, _, _, _, _, rfl, rfl, SqL.of (s' _ _ f1), (?_ : atI (errNames.map V.str) (0 + ((t : Nat) : Int)) = some (wordJ (.int (0 + ((t : Nat) : Int))))), h H' (Same.refl _)⟩
      rw [Int.zero_add]
      refine atI_nat ?_
      have hl : t < errNames.length := ht15
      show (errNames.map V.str)[t]? = some (.str (errName ((t : Nat) : Int).toNat))
      rw [List.getElem?_map, List.getElem?_eq_getElem hl, Int.toNat_natCast]
      unfold errName
      rw [List.getD_eq_getElem?_getD, List.getElem?_eq_getElem hl]
      rfl
    · intro H' s' e
      rw [kind_res F.lt] at e
      exact q _ H' (M.trans s') (M.free hD) e
theorem lt_one {a b : Nat} : ([a] < [b]) ↔ a < b := by
  rw [List.cons_lt_cons_iff]
  simp
theorem le_a (c : Nat) : (!decide ((⟨#[c]⟩ : Str).cps.toList < (Str.ofString "a").cps.toList)) = decide (97 ≤ c) := by
  have e : (Str.ofString "a").cps.toList = [97] := by decide +kernel
  rw [e]
  show (!decide ([c] < [97])) = _
  rw [Bool.eq_iff_iff]
  simp only [Bool.not_eq_true', decide_eq_false_iff_not, decide_eq_true_eq, lt_one]
  omega
theorem le_z (c : Nat) : (!decide ((Str.ofString "z").cps.toList < (⟨#[c]⟩ : Str).cps.toList)) = decide (c ≤ 122) := by
  have e : (Str.ofString "z").cps.toList = [122] := by decide +kernel
  rw [e]
  show (!decide ([122] < [c])) = _
  rw [Bool.eq_iff_iff]
  simp only [Bool.not_eq_true', decide_eq_false_iff_not, decide_eq_true_eq, lt_one]
  omega
def sp_small : Sp := fun vs H Q _ => ∃ c : Nat, vs = [sgn c] ∧ Q (.bl (small c)) H
theorem sc_is_small_letter : FnScope ["sign"] ["sign"] (defScope s_is_small_letter) := ⟨rfl, rfl, rfl, by decide +kernel, rfl, by decide +kernel, by decide +kernel⟩
theorem ok_small (D : DefAt K mg "is_small_letter" s_is_small_letter) (T : Bn mg) : Callee P w K mg base "is_small_letter" 1 ["sign"] sp_small := by
  refine D.callee sc_is_small_letter (fun _ _ _ _ _ _ us hl => match us, hl with | [_], _ => rfl) (fun vs H Q E h => ?_) (fun f cdv A outer s H vs Q E hr h => ?_)
  · obtain ⟨c, rfl, _⟩ := h
    rfl
  · obtain ⟨c, rfl, q⟩ := h
    have S := sc_is_small_letter
    refine ⟨_, pss_one (ps_ret (pe_chain op_le_str op_le_str (pe_str) (pv 0) (pe_str))), ?_⟩
    refine ⟨_, rfl, _, _, rfl, rfl, _, rfl, ?_⟩
    rw [le_a]
    have q' : Q (.bl (decide (97 ≤ c) && decide (c ≤ 122))) H := q
    cases e : decide (97 ≤ c) with
    | false =>
      rw [if_neg Bool.false_ne_true]
      rw [e] at q'
      exact q'
    | true =>
      rw [if_pos rfl]
      refine ⟨_, _, rfl, rfl, ?_⟩
      rw [le_z]
      rw [e] at q'
      exact q'
def sp_name : Sp := fun vs H Q _ => ∃ x : Str, vs = [.str x] ∧ x.length ≤ sizeLine ∧ ∀ H', Same H H' → Q (.bl (isName x)) H'
theorem sc_is_name : FnScope ["text"] ["text"] (defScope s_is_name) := ⟨rfl, rfl, rfl, by decide +kernel, rfl, by decide +kernel, by decide +kernel⟩
theorem ok_name (D : DefAt K mg "is_name" s_is_name) (T : Bn mg) (V_MOST_NAME : ∃ t, mg "MOST_NAME" = some (.int 6 t)) (C_is_small_letter : Callee P w K mg base "is_small_letter" 1 ["sign"] sp_small) : Callee P w K mg base "is_name" 2 ["text"] sp_name := by
  refine D.callee sc_is_name (fun _ _ _ _ _ _ us hl => match us, hl with | [_], _ => rfl) (fun vs H Q E h => ?_) (fun f cdv A outer s H vs Q E hr h => ?_)
  · obtain ⟨c, rfl, _⟩ := h
    rfl
  · obtain ⟨x, rfl, hx, q⟩ := h
    have S := sc_is_name
    refine ⟨_, pss_cons (ps_if (pt_not (pt_chain op_le op_le (pe_int) (pe_callB call_len_str rfl T.n_len PySem.boot_len (pa_cons (pv 0) pa_nil)) (pe_gint rfl V_MOST_NAME)))
      (pss_one (ps_ret (pe_bl)))
      (pss_nil))
    (pss_one (ps_ret (pe_callB (call_all rfl) rfl T.n_all boot_all (pa_cons (pe_comp (own := ["sign"]) (caps := []) rfl ⟨rfl, rfl, rfl, rfl, trivial⟩ (pi_str (pv 0)) (fun _ _ _ _ _ _ => pg_name (i := 0) (nd_comp (by decide +kernel)) rfl (Or.inl rfl)) (fun _ _ _ _ _ _ => pts_nil) (fun _ _ _ _ _ _ => pe_fn C_is_small_letter (hr.mono (by decide)) rfl (pa_cons (pv 0) pa_nil))) pa_nil)))), ?_⟩
    have fin : ∀ H', Same H H' → (decide (1 ≤ x.length) && decide (x.length ≤ 6)) = false → Q (.bl false) H' := fun H' s' e => by
      have := q H' s'
      unfold isName at this
      rw [e] at this
      exact this
    refine ⟨_, rfl, _, rfl, hx, _, _, rfl, rfl, _, rfl, ?_⟩
    refine ite2 (fun h1 => ?_) (fun h1 => ?_)
    · refine ⟨_, _, rfl, rfl, _, rfl, ?_⟩
      refine ite2 (fun h2 => ?_) (fun h2 => ?_)
      · refine fin H (Same.refl H) ?_
        have : ¬ (x.length : Int) ≤ 6 := by simpa using h2
        rw [Bool.and_eq_false_iff]
        exact .inr (decide_eq_false (by omega))
      · refine ⟨_, rfl, _, rfl, fun D hD => ?_⟩
        refine comp_s (capv := []) (L := x.cps.toList.map sgn) (by rfl) (gives_str x) (by rw [List.length_map, txt_len]; exact hx) hD ?_ (fun _ => true) (fun v => match v with | .str y => .bl (small (y.cps.getD 0 0)) | _ => .non) ?_ ?_ ?_
        · exact fun _ _ => trivial
        · exact fun v hv H' R s' h => h H' (Same.refl _)
        · intro v hv _ H' R s' h
          obtain ⟨c, hc, rfl⟩ := List.mem_map.mp hv
          exact ⟨_, rfl, c, rfl, h H' (Same.refl _)⟩
        · intro H' s' e
          refine ⟨_, x.cps.toList.map small, rfl, ?_, ?_⟩
          · refine SqL.of ?_
            rw [e]
            congr 2
            rw [List.filter_eq_self.mpr (fun _ _ => rfl), List.map_map, List.map_map]
            rfl
          · have := q H' s'
            unfold isName at this
            have h3 : ¬ ¬ (x.length : Int) ≤ 6 := by simpa using h2
            have h1' : (1 : Int) ≤ x.length := by simpa using h1
            rw [decide_eq_true (show 1 ≤ x.length by omega), decide_eq_true (show x.length ≤ 6 by omega)] at this
            rw [List.all_map]
            exact this
    · refine ⟨_, rfl, ?_⟩
      refine fin H (Same.refl H) ?_
      have h1' : ¬ (1 : Int) ≤ x.length := by simpa using h1
      rw [Bool.and_eq_false_iff]
      exact .inl (decide_eq_false (by omega))
def sp_teeth (K : PySem.W.Frag) : Sp := fun vs H Q _ => ∃ (a : Addr) (ts : List Int), vs = [.ref a] ∧ SqL K H a (ts.map V.int) ∧ ts.length ≤ 1000 ∧ ∀ H', Same H H' → Q (.bl (areTeeth ts)) H'
theorem sc_are_teeth : FnScope ["teeth"] ["teeth"] (defScope s_are_teeth) := ⟨rfl, rfl, rfl, by decide +kernel, rfl, by decide +kernel, by decide +kernel⟩
theorem ok_teeth (D : DefAt K mg "are_teeth" s_are_teeth) (T : Bn mg) (V_MOST_TOOTH : ∃ t, mg "MOST_TOOTH" = some (.int 7 t)) : Callee P w K mg base "are_teeth" 1 ["teeth"] (sp_teeth K) := by
  refine D.callee sc_are_teeth (fun _ _ _ _ _ _ us hl => match us, hl with | [_], _ => rfl) (fun vs H Q E h => ?_) (fun f cdv A outer s H vs Q E hr h => ?_)
  · obtain ⟨a, ts, rfl, _⟩ := h
    rfl
  · obtain ⟨a, ts, rfl, ha, hl, q⟩ := h
    have S := sc_are_teeth
    unfold areTeeth at q
    refine ⟨_, pss_cons (ps_if (pt_cmpR op_notIn_seq (pe_int) (pv 0) (by with_unfolding_all rfl))
      (pss_one (ps_ret (pe_bl)))
      (pss_nil))
    (pss_cons (ps_if (pt_cmpR op_ne (pe_callB call_lenS rfl T.n_len PySem.boot_len (pa_cons (pe_callTy (call_set1 rfl) rfl T.n_set boot_set (pa_cons (pv 0) pa_nil)) pa_nil)) (pe_callB call_len_seq rfl T.n_len PySem.boot_len (pa_cons (pv 0) pa_nil)) (nomark _))
      (pss_one (ps_ret (pe_bl)))
      (pss_nil))
    (pss_one (ps_ret (pe_callB (call_all rfl) rfl T.n_all boot_all (pa_cons (pe_comp (own := ["tooth"]) (caps := []) rfl ⟨rfl, rfl, rfl, rfl, trivial⟩ (pi_list (pv 0)) (fun _ _ _ _ _ _ => pg_name (i := 0) (nd_comp (by decide +kernel)) rfl (Or.inl rfl)) (fun _ _ _ _ _ _ => pts_nil) (fun _ _ _ _ _ _ => pe_chain op_le op_le (pe_int) (pv 0) (pe_gint rfl V_MOST_TOOTH))) pa_nil))))), ?_⟩
    refine ⟨_, rfl, _, _, rfl, .inl ha, rfl, flats ts, _, rfl, ?_⟩
    rw [if_pos rfl, in_zero]
    refine ite2 (fun hc => ?_) (fun hc => ?_)
    · have h0 : decide (0 ∈ ts) = false := by simpa using hc
      rw [h0] at q
      exact q H (Same.refl H)
    · have h0 : decide (0 ∈ ts) = true := by simpa using hc
      rw [h0, Bool.true_and] at q
      refine ⟨_, rfl, _, ts, rfl, ha, ?_, fun p np => ?_⟩
      · show ts.length + 1 < 4096
        omega
      have s1 : Same H (upd H p (.set (fun k => (firstMet (fun i => ts.getD i 0) ts.length).any (· == k)) (many ts))) := Same.new np
      refine ⟨_, _, _, rfl, upd_same, _, rfl, _, _, rfl, .inl (s1.seq ha), rfl, _, rfl, ?_⟩
      rw [List.length_map]
      refine ite2 (fun hm => ?_) (fun hm => ?_)
      · have h1 : ¬ many ts = ts.length := fun z => by simp [z] at hm
        rw [decide_eq_false h1, Bool.false_and] at q
        exact q _ s1
      · have h1 : many ts = ts.length := by
          have : (many ts : Int) = (ts.length : Int) := by simpa using hm
          omega
        rw [decide_eq_true h1, Bool.true_and] at q
        refine ⟨_, rfl, _, rfl, ⟨_, s1.seq ha⟩, fun D hD => ?_⟩
        refine comp_s (capv := []) (L := ts.map V.int) (by rfl) (gives_list K a (ts.map V.int)) (by rw [List.length_map]; exact big hl) hD ?_ (fun _ => true) (fun v => match v with | .int t => .bl (inR t) | _ => .non) ?_ ?_ ?_
        · exact fun H' s' => (s1.trans s').seq ha
        · exact fun v hv H' R s' h => h H' (Same.refl _)
        · intro v hv _ H' R s' h
          obtain ⟨t, ht, rfl⟩ := List.mem_map.mp hv
          have h := h H' (Same.refl _)
          have h : R (.bl (decide (0 ≤ t) && decide (t ≤ 7))) H' := h
          refine ⟨_, rfl, _, _, rfl, rfl, _, rfl, ?_⟩
          cases e : decide (0 ≤ t) with
          | false =>
            rw [e] at h
            exact iteF h
          | true =>
            rw [e] at h
            exact iteT ⟨_, _, rfl, rfl, h⟩
        · intro H' s' e
          refine ⟨_, ts.map inR, rfl, ?_, ?_⟩
          · refine SqL.of ?_
            rw [e]
            congr 2
            rw [List.filter_eq_self.mpr (fun _ _ => rfl), List.map_map, List.map_map]
            rfl
          · have := q H' (s1.trans s')
            rw [List.all_map]
            exact this
/-! ### the book -/
theorem lk_combs {d l : V} : ([("combs", d), ("past", l)] : List (Str × V)).lookup (Str.ofString "combs") = some d := rfl
theorem lk_past {d l : V} : ([("combs", d), ("past", l)] : List (Str × V)).lookup (Str.ofString "past") = some l := rfl
theorem putF_combs {y d l : V} : putF (Str.ofString "combs") y [("combs", d), ("past", l)] = [(Str.ofString "combs", y), (Str.ofString "past", l)] := by
  unfold putF
  rw [if_pos rfl]
theorem putF_new {y : V} : putF (Str.ofString "combs") y [] = [(Str.ofString "combs", y)] := rfl
theorem putF_past {y d : V} : putF (Str.ofString "past") y [("combs", d)] = [(Str.ofString "combs", d), (Str.ofString "past", y)] := by
  have h : ¬ (Str.ofString "combs" = Str.ofString "past") := by decide +kernel
  unfold putF
  rw [if_neg h]
  rfl
theorem two_len {a b : Str × V} : [a, b].length < 1000 := show 2 < 1000 by decide
def sp_check (ea : Nat → Addr) (C : Addr) : Sp := fun vs H Q E => ∃ b l G cs past x, vs = [.ref b, .str x] ∧ Bk C G H b l cs past ∧ (if (cGet cs x).isSome = true then Q .non H else E (.ref (ea 4)) none H)
theorem sc_Book_check_comb : FnScope ["self", "name"] ["self", "name"] (defScope s_Book_check_comb) := ⟨rfl, rfl, rfl, by decide +kernel, rfl, by decide +kernel, by decide +kernel⟩
theorem ok_check {ea : Nat → Addr} {C : Addr} (D : MethAt K C "Book" "check_comb" s_Book_check_comb) (T : Bn mg) (BA : BookAt K C) (O_NoComb : Err K mg "NoComb" (ea 4)) : Method P w K mg base C "check_comb" (CX1 P w) 1 ["self", "name"] (sp_check ea C) := by
  refine D.meth1 sc_Book_check_comb (fun _ _ _ _ _ _ us hl => match us, hl with | [_, _], _ => rfl) (fun vs H Q E h => ?_) (fun f cdv A outer s H vs Q E hr h => ?_)
  · obtain ⟨b, l, G, cs, past, x, rfl, _⟩ := h
    rfl
  · obtain ⟨b, l, G, cs, past, x, rfl, B, q⟩ := h
    have S := sc_Book_check_comb
    have hu := hu_of hr
    obtain ⟨dx, d, hb, gd, kvs, hd, kr⟩ := B.ins
    refine ⟨_, pss_one (ps_if (pt_cmp (pc_dnotin hu (pv 1) (pe_fld (pv 0) rfl)))
      (pss_one (ps_raise O_NoComb rfl (pa_cons (pe_str) pa_nil)))
      (pss_nil)), ?_⟩
    refine ⟨_, rfl, _, rfl, _, _, _, _, _, rfl, hb, BA.cls, BA.nc, lk_combs, d, _, rfl, DGet.k (k := Sum.inr x) hd, _, rfl, ?_⟩
    rw [kr.some]
    cases e : (cGet cs x).isSome with
    | false =>
      rw [e] at q
      exact iteT ⟨bigr rfl, q⟩
    | true =>
      rw [e] at q
      exact iteF q
def sp_do (ea : Nat → Addr) (C : Addr) : Sp := fun vs H Q E => ∃ b l G cs past d D cs', vs = [.ref b, .ref d] ∧ Bk C G H b l cs past ∧ DictR D H d cs' ∧ Good cs' ∧ (∀ x, D x → x ≠ b ∧ x ≠ l ∧ H x ≠ none) ∧
  (if 300 ≤ past.length then E (.ref (ea 9)) none H else ∀ H', (∀ a, a ≠ b → a ≠ l → H' a = H a) → Bk C (fun a => G a ∨ D a) H' b l cs' (past ++ [cs]) → Q (.int ((past.length : Int) + 1)) H')
theorem sc_Book_do_deed : FnScope ["self", "combs"] ["self", "combs"] (defScope s_Book_do_deed) := ⟨rfl, rfl, rfl, by decide +kernel, rfl, by decide +kernel, by decide +kernel⟩
theorem ok_do {ea : Nat → Addr} {C : Addr} (D : MethAt K C "Book" "do_deed" s_Book_do_deed) (T : Bn mg) (BA : BookAt K C) (V_MOST_DEEDS : ∃ t, mg "MOST_DEEDS" = some (.int 300 t)) (O_DeedsFull : Err K mg "DeedsFull" (ea 9)) : Method P w K mg base C "do_deed" (CX1 P w) 1 ["self", "combs"] (sp_do ea C) := by
  refine D.meth1 sc_Book_do_deed (fun _ _ _ _ _ _ us hl => match us, hl with | [_, _], _ => rfl) (fun vs H Q E h => ?_) (fun f cdv A outer s H vs Q E hr h => ?_)
  · obtain ⟨b, l, G, cs, past, d, D, cs', rfl, _⟩ := h
    rfl
  · obtain ⟨b, l, G, cs, past, d1, Dd, cs', rfl, B, dr, gd', nD, q⟩ := h
    have S := sc_Book_do_deed
    have hu := hu_of hr
    obtain ⟨dx, d, hb, dr0⟩ := B.ins
    obtain ⟨vs, hl, pr⟩ := B.lst
    have hlen := pr.length
    have hbl : b ≠ l := ne_of hb hl (by intro z; cases z)
    refine ⟨_, pss_cons (ps_if (pt_cmpR op_ge (pe_callB call_len_seq rfl T.n_len PySem.boot_len (pa_cons (pe_fld (pv 0) rfl) pa_nil)) (pe_gint rfl V_MOST_DEEDS) (nomark _))
      (pss_one (ps_raise O_DeedsFull rfl (pa_cons (pe_str) pa_nil)))
      (pss_nil))
    (pss_cons (ps_expr (pe_bm PySem.F.plainAttrs_list PySem.F.slot_list_append PySem.F.type_list_append mt_append (pe_fld (pv 0) rfl) (pa_cons (pe_fld (pv 0) rfl) pa_nil)))
    (pss_cons (ps_fld (pv 0) (pv 1) rfl)
    (pss_one (ps_ret (pe_callB call_len_seq rfl T.n_len PySem.boot_len (pa_cons (pe_fld (pv 0) rfl) pa_nil)))))), ?_⟩
    refine ⟨_, rfl, _, _, _, _, _, rfl, hb, BA.cls, BA.np, lk_past, _, _, rfl, .inl (SqL.of hl), _, _, rfl, rfl, _, rfl, ?_⟩
    refine ite2 (fun hc => ?_) (fun hc => ?_)
    · have h300 : 300 ≤ past.length := by
        have : (300 : Int) ≤ (vs.length : Int) := by simpa using hc
        omega
      rw [if_pos h300] at q
      exact ⟨bigr rfl, q⟩
    · have h300 : ¬ 300 ≤ past.length := by
        have : ¬ (300 : Int) ≤ (vs.length : Int) := by simpa using hc
        omega
      rw [if_neg h300] at q
      refine ⟨_, rfl, _, _, _, _, _, rfl, hb, BA.cls, BA.np, lk_past, .inl ⟨rfl, _, SqL.of hl⟩, _, rfl, _, _, _, _, _, rfl, hb, BA.cls, BA.nc, lk_combs, _, _, _, rfl, rfl, hl, ?_, ?_⟩
      · exact Nat.lt_of_lt_of_le (by omega : vs.length < 1000) sizeBig
      have hb1 : upd H l (.lst (vs ++ [.ref d])) b = some (.ins C dx [("combs", .ref d), ("past", .ref l)]) := by rw [upd_ne hbl]; exact hb
      refine ⟨_, rfl, _, rfl, _, _, _, _, rfl, hb1, BA.cls, BA.nc, two_len, ?_⟩
      rw [putF_combs]
      have hb2 : upd (upd H l (.lst (vs ++ [.ref d]))) b (.ins C dx [("combs", .ref d1), ("past", .ref l)]) b = some (.ins C dx [("combs", .ref d1), ("past", .ref l)]) := upd_same
      have hl2 : upd (upd H l (.lst (vs ++ [.ref d]))) b (.ins C dx [("combs", .ref d1), ("past", .ref l)]) l = some (.lst (vs ++ [.ref d])) := by rw [upd_ne (Ne.symm hbl), upd_same]
      have off : ∀ a, a ≠ b → a ≠ l → upd (upd H l (.lst (vs ++ [.ref d]))) b (.ins C dx [("combs", .ref d1), ("past", .ref l)]) a = H a := fun a n1 n2 => by rw [upd_ne n1, upd_ne n2]
      generalize upd (upd H l (.lst (vs ++ [.ref d]))) b (.ins C dx [("combs", .ref d1), ("past", .ref l)]) = H2 at hb2 hl2 off
      refine ⟨_, rfl, _, _, _, _, _, rfl, hb2, BA.cls, BA.np, lk_past, _, _, rfl, .inl (SqL.of hl2), ?_⟩
      rw [List.length_append, List.length_singleton, hlen]
      have sG : ∀ a o, G a → H a = some o → H2 a = some o := fun a o g e => (off a (fun z => B.nb (z ▸ g)) (fun z => B.nl (z ▸ g))).trans e
      have sD : ∀ a o, Dd a → H a = some o → H2 a = some o := fun a o g e => (off a (nD a g).1 (nD a g).2.1).trans e
      refine q H2 off ⟨?_, ?_, ?_, ⟨dx, d1, hb2, dr.mono sD fun _ g => .inr g⟩, ⟨_, hl2, ?_⟩, gd', ?_, ?_⟩
      · rintro x (g | g)
        · rw [off x (fun z => B.nb (z ▸ g)) (fun z => B.nl (z ▸ g))]; exact B.live x g
        · rw [off x (nD x g).1 (nD x g).2.1]; exact (nD x g).2.2
      · rintro (g | g)
        · exact B.nb g
        · exact (nD b g).1 rfl
      · rintro (g | g)
        · exact B.nl g
        · exact (nD l g).2.1 rfl
      · exact Paired.snoc (Paired.mono (fun _ _ ⟨d, e, r⟩ => ⟨d, e, r.mono sG fun _ g => .inl g⟩) pr) ⟨d, rfl, dr0.mono sG fun _ g => .inl g⟩
      · intro p hp
        rcases List.mem_append.mp hp with z | z
        · exact B.goods p z
        · rw [List.mem_singleton.mp z]; exact B.good
      · rw [List.length_append, List.length_singleton]; omega
def sp_deeds (C : Addr) : Sp := fun vs H Q _ => ∃ b l G cs past, vs = [.ref b] ∧ Bk C G H b l cs past ∧ Q (.int (past.length : Int)) H
theorem sc_Book_deeds : FnScope ["self"] ["self"] (defScope s_Book_deeds) := ⟨rfl, rfl, rfl, by decide +kernel, rfl, by decide +kernel, by decide +kernel⟩
theorem ok_deeds {C : Addr} (D : MethAt K C "Book" "deeds" s_Book_deeds) (T : Bn mg) (BA : BookAt K C) : Method P w K mg base C "deeds" CX0 1 ["self"] (sp_deeds C) := by
  refine D.meth0 sc_Book_deeds (fun _ _ _ _ _ _ us hl => match us, hl with | [_], _ => rfl) (fun vs H Q E h => ?_) (fun f cdv A outer s H vs Q E hr h => ?_)
  · obtain ⟨b, l, G, cs, past, rfl, _⟩ := h
    rfl
  · obtain ⟨b, l, G, cs, past, rfl, B, q⟩ := h
    have S := sc_Book_deeds
    obtain ⟨dx, d, hb, dr0⟩ := B.ins
    obtain ⟨vs, hl, pr⟩ := B.lst
    refine ⟨_, pss_one (ps_ret (pe_callB call_len_seq rfl T.n_len PySem.boot_len (pa_cons (pe_fld (pv 0) rfl) pa_nil))), ?_⟩
    refine ⟨_, rfl, _, _, _, _, _, rfl, hb, BA.cls, BA.np, lk_past, _, _, rfl, .inl (SqL.of hl), ?_⟩
    rw [pr.length]
    exact q
def sp_names (C : Addr) : Sp := fun vs H Q _ => ∃ b l G cs past, vs = [.ref b] ∧ Bk C G H b l cs past ∧ ∀ p (nm : List Str), H p = none → nm.Perm (cs.map (·.1)) → sortedS nm = true → Q (.ref p) (upd H p (.lst (nm.map V.str)))
theorem sc_Book_names : FnScope ["self"] ["self"] (defScope s_Book_names) := ⟨rfl, rfl, rfl, by decide +kernel, rfl, by decide +kernel, by decide +kernel⟩
theorem ok_names {C : Addr} (D : MethAt K C "Book" "names" s_Book_names) (T : Bn mg) (BA : BookAt K C) : Method P w K mg base C "names" CX0 1 ["self"] (sp_names C) := by
  refine D.meth0 sc_Book_names (fun _ _ _ _ _ _ us hl => match us, hl with | [_], _ => rfl) (fun vs H Q E h => ?_) (fun f cdv A outer s H vs Q E hr h => ?_)
  · obtain ⟨b, l, G, cs, past, rfl, _⟩ := h
    rfl
  · obtain ⟨b, l, G, cs, past, rfl, B, q⟩ := h
    have S := sc_Book_names
    obtain ⟨dx, d, hb, gd, kvs, hd, kr⟩ := B.ins
    refine ⟨_, pss_one (ps_ret (pe_callB (call_sortedD rfl) rfl T.n_sorted boot_sorted (pa_cons (pe_fld (pv 0) rfl) pa_nil))), ?_⟩
    refine ⟨_, rfl, _, _, _, _, _, rfl, hb, BA.cls, BA.nc, lk_combs, d, kvs, cs.map (·.1), rfl, .inl hd, kr.keys, ?_, q⟩
    rw [List.length_map]
    have := B.good.len
    omega
def sp_bteeth (ea : Nat → Addr) (C : Addr) : Sp := fun vs H Q E => ∃ b l G cs past x, vs = [.ref b, .str x] ∧ Bk C G H b l cs past ∧ (match cGet cs x with | some ts => ∀ p, H p = none → Q (.ref p) (upd H p (.lst (ts.map V.int))) | none => E (.ref (ea 4)) none H)
theorem sc_Book_teeth : FnScope ["self", "name"] ["self", "name"] (defScope s_Book_teeth) := ⟨rfl, rfl, rfl, by decide +kernel, rfl, by decide +kernel, by decide +kernel⟩
theorem ok_bteeth {ea : Nat → Addr} {C : Addr} (D : MethAt K C "Book" "teeth" s_Book_teeth) (T : Bn mg) (BA : BookAt K C) (M_check_comb : Method P w K mg base C "check_comb" (CX1 P w) 1 ["self", "name"] (sp_check ea C)) : Method P w K mg base C "teeth" (CX1 P w) 2 ["self", "name"] (sp_bteeth ea C) := by
  refine D.meth1 sc_Book_teeth (fun _ _ _ _ _ _ us hl => match us, hl with | [_, _], _ => rfl) (fun vs H Q E h => ?_) (fun f cdv A outer s H vs Q E hr h => ?_)
  · obtain ⟨b, l, G, cs, past, x, rfl, _⟩ := h
    rfl
  · obtain ⟨b, l, G, cs, past, x, rfl, B, q⟩ := h
    have S := sc_Book_teeth
    have hu := hu_of hr
    have B_cls := BA.cls
    obtain ⟨dx, d, hb, gd, kvs, hd, kr⟩ := id B.ins
    refine ⟨_, pss_cons (ps_expr (pe_mt (pv 0) B_cls M_check_comb (hr.mono (by decide)) (by first | exact pass0 | exact pass_try | exact pass1 | exact pass_E0) (pa_cons (pv 1) pa_nil)))
    (pss_one (ps_ret (pe_callTy call_list_of rfl T.n_list boot_list (pa_cons (pe_dget hu (pe_fld (pv 0) rfl) (pv 1) (fun _ _ => rfl)) pa_nil)))), ?_⟩
    refine ⟨_, rfl, _, _, _, rfl, hb, rfl, _, rfl, b, l, G, cs, past, x, rfl, B, ?_⟩
    rcases kr.val (x := x) with ⟨e1, e2⟩ | ⟨ts, t, e1, e2, e3, e4⟩
    · rw [e1] at q ⊢
      exact q
    · rw [e1] at q ⊢
      refine iteT ?_
      refine ⟨_, rfl, _, _, _, _, _, rfl, hb, BA.cls, BA.nc, lk_combs, _, rfl, d, _, rfl, ?_, _, _, rfl, .inl (SqL.of e3), q⟩
      rw [← e2]
      exact DGet.k (k := Sum.inr x) hd
def sp_init (C : Addr) : Sp := fun vs H Q _ => ∃ b dx, vs = [.ref b] ∧ H b = some (.ins C dx []) ∧ ∀ H' l d, Mv b b (fun _ => False) (fun a => a = d) H H' → H l = none → H d = none → Bk C (fun a => a = d) H' b l [] [] → Q .non H'
theorem sc_Book___init__ : FnScope ["self"] ["self"] (defScope s_Book___init__) := ⟨rfl, rfl, rfl, by decide +kernel, rfl, by decide +kernel, by decide +kernel⟩
theorem ok_init {C : Addr} {f : Addr} {fd : FuncData} (F : Fun K "__init__" "Book.__init__" s_Book___init__ f fd) (T : Bn mg) (BA : BookAt K C) : FnOk P w K mg base CX0 1 f fd ["self"] (sp_init C) := by
  refine F.ok sc_Book___init__ (fun vs H Q E h => ?_) (fun cdv A outer s H vs Q E hr h => ?_)
  · obtain ⟨b, dx, rfl, _⟩ := h
    rfl
  · obtain ⟨b, dx, rfl, hb, q⟩ := h
    have S := sc_Book___init__
    refine ⟨_, pss_cons (ps_fld (pv 0) (pe_dnewK) rfl)
    (pss_one (ps_fld (pv 0) (pe_lst (pa_nil)) rfl)), ?_⟩
    refine fun d nd => ?_
    have hbd : b ≠ d := ne_of_none hb nd
    have hb1 : upd H d (.dK []) b = some (.ins C dx []) := by rw [upd_ne hbd]; exact hb
    refine ⟨_, rfl, _, _, _, _, rfl, hb1, BA.cls, BA.nc, by decide, ?_⟩
    rw [putF_new]
    refine ⟨bigr rfl, fun l nl => ?_⟩
    have hbl : b ≠ l := fun z => by rw [← z, upd_same] at nl; cases nl
    have nl1 : upd H d (.dK []) l = none := by rw [upd_ne (Ne.symm hbl)] at nl; exact nl
    have hdl : d ≠ l := fun z => by rw [← z, upd_same] at nl1; cases nl1
    have hln : H l = none := by rw [upd_ne (Ne.symm hdl)] at nl1; exact nl1
    have hb2 : upd (upd (upd H d (.dK [])) b (.ins C dx [(Str.ofString "combs", V.ref d)])) l (.lst []) b = some (.ins C dx [("combs", .ref d)]) := by rw [upd_ne hbl, upd_same]
    refine ⟨_, rfl, _, _, _, _, rfl, hb2, BA.cls, BA.np, (show 1 < 1000 by decide), ?_⟩
    rw [putF_past]
    have hb3 : upd (upd (upd (upd H d (.dK [])) b (.ins C dx [(Str.ofString "combs", V.ref d)])) l (.lst [])) b (.ins C dx [(Str.ofString "combs", V.ref d), (Str.ofString "past", V.ref l)]) b = some (.ins C dx [("combs", .ref d), ("past", .ref l)]) := upd_same
    have hd3 : upd (upd (upd (upd H d (.dK [])) b (.ins C dx [(Str.ofString "combs", V.ref d)])) l (.lst [])) b (.ins C dx [(Str.ofString "combs", V.ref d), (Str.ofString "past", V.ref l)]) d = some (.dK []) := by
      rw [upd_ne (Ne.symm hbd), upd_ne hdl, upd_ne (Ne.symm hbd), upd_same]
    have hl3 : upd (upd (upd (upd H d (.dK [])) b (.ins C dx [(Str.ofString "combs", V.ref d)])) l (.lst [])) b (.ins C dx [(Str.ofString "combs", V.ref d), (Str.ofString "past", V.ref l)]) l = some (.lst []) := by
      rw [upd_ne (Ne.symm hbl), upd_same]
    have off : ∀ a o, H a = some o → a ≠ b → upd (upd (upd (upd H d (.dK [])) b (.ins C dx [(Str.ofString "combs", V.ref d)])) l (.lst [])) b (.ins C dx [(Str.ofString "combs", V.ref d), (Str.ofString "past", V.ref l)]) a = some o := fun a o e n => by
      rw [upd_ne n, upd_ne (ne_of_none e hln), upd_ne n, upd_ne (ne_of_none e nd)]; exact e
    generalize upd (upd (upd (upd H d (.dK [])) b (.ins C dx [(Str.ofString "combs", V.ref d)])) l (.lst [])) b (.ins C dx [(Str.ofString "combs", V.ref d), (Str.ofString "past", V.ref l)]) = H3 at hb3 hd3 hl3 off
    refine q H3 l d ⟨fun a o e n _ => off a o e n, fun a h => ?_, fun a g => .inr (by rw [g]; exact nd)⟩ hln nd ⟨fun x g => ?_, hbd, fun z => hdl z.symm, ⟨dx, d, hb3, rfl, [], hd3, .nil⟩, ⟨[], hl3, .nil⟩, good_nil, by simp, by decide⟩
    · by_cases z : a = b
      · rw [z, hb3]; simp
      · cases e : H a with
        | none => exact absurd e h
        | some o => rw [off a o e z]; simp
    · rw [show x = d from g, hd3]; simp
def sp_set (ea : Nat → Addr) (C : Addr) : Sp := fun vs H Q E => ∃ b l G cs past x a ts, vs = [.ref b, .str x, .ref a] ∧ Bk C G H b l cs past ∧ SqL K H a (ts.map V.int) ∧ areTeeth ts = true ∧ isName x = true ∧ (cs.length < 8 ∨ (cGet cs x).isSome = true) ∧ Deed ea C G H b l cs past Q E (full past (cPut cs x (canon ts)))
theorem sc_Book_set_comb : FnScope ["self", "name", "teeth", "combs"] ["self", "name", "teeth"] (defScope s_Book_set_comb) := ⟨rfl, rfl, rfl, by decide +kernel, rfl, by decide +kernel, by decide +kernel⟩
theorem ok_set {ea : Nat → Addr} {C : Addr} (D : MethAt K C "Book" "set_comb" s_Book_set_comb) (T : Bn mg) (BA : BookAt K C) (M_do_deed : Method P w K mg base C "do_deed" (CX1 P w) 1 ["self", "combs"] (sp_do ea C)) : Method P w K mg base C "set_comb" (CX1 P w) 2 ["self", "name", "teeth"] (sp_set (K := K) ea C) := by
  refine D.meth1 sc_Book_set_comb (fun _ _ _ _ _ _ us hl => match us, hl with | [_, _, _], _ => rfl) (fun vs H Q E h => ?_) (fun f cdv A outer s H vs Q E hr h => ?_)
  · obtain ⟨b, l, G, cs, past, x, a, ts, rfl, _⟩ := h
    rfl
  · obtain ⟨b, l, G, cs, past, x, a, ts, rfl, B, ha, ht, hx, hn, q⟩ := h
    have S := sc_Book_set_comb
    have hu := hu_of hr
    have B_cls := BA.cls
    obtain ⟨t0, tn, tr⟩ := teeth_iff.mp ht
    obtain ⟨dx, d, hb, gd, kvs, hd, kr⟩ := id B.ins
    refine ⟨_, pss_cons (ps_set (i := 3) S.nd rfl (Or.inl rfl) (pe_callTy call_dictD rfl T.n_dict boot_dict (pa_cons (pe_fld (pv 0) rfl) pa_nil)))
    (pss_cons (ps_dput hu (pv 3) (pv 1) (pe_callB call_sortedI rfl T.n_sorted boot_sorted (pa_cons (pv 2) pa_nil)) rfl)
    (pss_one (ps_ret (pe_mt (pv 0) B_cls M_do_deed (hr.mono (by decide)) (by first | exact pass0 | exact pass_try | exact pass1 | exact pass_E0) (pa_cons (pv 3) pa_nil))))), ?_⟩
    refine ⟨_, rfl, _, _, _, _, _, rfl, hb, BA.cls, BA.nc, lk_combs, d, kvs, rfl, .inl hd, fun p np => ?_⟩
    have s1 : Same H (upd H p (.dK kvs)) := Same.new np
    refine ⟨_, rfl, a, ts, rfl, s1.seq ha, ?_, fun r ns nr hp hs => ?_⟩
    · have := teeth_len tn tr
      omega
    have hc := canon_of hp hs tn tr
    subst hc
    have npr : p ≠ r := fun z => by rw [← z, upd_same] at nr; cases nr
    have hr0 : H r = none := s1.free nr
    have s2 : Same H (upd (upd H p (.dK kvs)) r (.lst ((canon ts).map V.int))) := s1.put hr0
    have hp2 : upd (upd H p (.dK kvs)) r (.lst ((canon ts).map V.int)) p = some (.dK kvs) := by rw [upd_ne npr, upd_same]
    have hkl : kvs.length < sizeLine := by
      have := kr.length
      have := B.good.len
      exact Nat.lt_of_lt_of_le (by omega : kvs.length < 1000) sizeBig
    refine ⟨_, rfl, _, rfl, p, _, rfl, DPut.k (k := Sum.inr x) hp2 hkl, ?_⟩
    have s3 : Same H (upd (upd (upd H p (.dK kvs)) r (.lst ((canon ts).map V.int))) p (.dK (putK kvs (Sum.inr x) (.ref r)))) := s2.put np
    have hr3 : upd (upd (upd H p (.dK kvs)) r (.lst ((canon ts).map V.int))) p (.dK (putK kvs (Sum.inr x) (.ref r))) r = some (.lst ((canon ts).map V.int)) := by rw [upd_ne (Ne.symm npr), upd_same]
    have hp3 : upd (upd (upd H p (.dK kvs)) r (.lst ((canon ts).map V.int))) p (.dK (putK kvs (Sum.inr x) (.ref r))) p = some (.dK (putK kvs (Sum.inr x) (.ref r))) := upd_same
    generalize upd (upd (upd H p (.dK kvs)) r (.lst ((canon ts).map V.int))) p (.dK (putK kvs (Sum.inr x) (.ref r))) = H3 at s3 hr3 hp3
    have B3 := B.same s3
    obtain ⟨lb, ll⟩ := B.liveB
    refine ⟨_, rfl, b, dx, _, rfl, s3 _ _ hb, rfl, _, rfl, b, l, G, cs, past, p, fun a => G a ∨ a = p ∨ a = r, cPut cs x (canon ts), rfl, B3, ⟨.inr (.inl rfl), _, hp3, ?_⟩, B.good.put hx (gt_canon t0) hn, ?_, ?_⟩
    · exact (kr.mono (fun a o _ e => s3 a o e) fun _ g => .inl g).put hr3 (.inr (.inr rfl))
    · rintro y (g | g | g)
      · exact ⟨fun z => B.nb (z ▸ g), fun z => B.nl (z ▸ g), B3.live y g⟩
      · subst g
        exact ⟨fun z => lb (z ▸ np), fun z => ll (z ▸ np), by rw [hp3]; simp⟩
      · subst g
        exact ⟨fun z => lb (z ▸ hr0), fun z => ll (z ▸ hr0), by rw [hr3]; simp⟩
    · unfold full at q
      by_cases h3 : 300 ≤ past.length
      · rw [if_pos h3] at q ⊢
        exact q H3 s3
      · rw [if_neg h3] at q ⊢
        intro H4 off B4
        refine q H4 _ ⟨fun a o e n1 n2 => (off a n1 n2).trans (s3 a o e), fun a h => ?_, fun a g => ?_⟩ B4
        · obtain ⟨lb4, ll4⟩ := B4.liveB
          by_cases z : a = b
          · rw [z]; exact lb4
          · by_cases z2 : a = l
            · rw [z2]; exact ll4
            · rw [off a z z2]; exact live_same s3 a h
        · rcases g with g | g | g | g
          · exact .inl g
          · exact .inl g
          · rw [g]; exact .inr np
          · rw [g]; exact .inr hr0
def sp_put (ea : Nat → Addr) (C : Addr) : Sp := fun vs H Q E => ∃ b l G cs past x a ts, vs = [.ref b, .str x, .ref a] ∧ Bk C G H b l cs past ∧ SqL K H a (ts.map V.int) ∧ x.length ≤ sizeLine ∧ ts.length ≤ 1000 ∧ Deed ea C G H b l cs past Q E (putD cs past x ts)
theorem sc_Book_put : FnScope ["self", "name", "teeth"] ["self", "name", "teeth"] (defScope s_Book_put) := ⟨rfl, rfl, rfl, by decide +kernel, rfl, by decide +kernel, by decide +kernel⟩
theorem ok_put {ea : Nat → Addr} {C : Addr} (D : MethAt K C "Book" "put" s_Book_put) (T : Bn mg) (BA : BookAt K C) (V_MOST_COMBS : ∃ t, mg "MOST_COMBS" = some (.int 8 t)) (O_BadName : Err K mg "BadName" (ea 0)) (O_BadTeeth : Err K mg "BadTeeth" (ea 1)) (O_NameTaken : Err K mg "NameTaken" (ea 2)) (O_BookFull : Err K mg "BookFull" (ea 3))
    (C_is_name : Callee P w K mg base "is_name" 2 ["text"] sp_name) (C_are_teeth : Callee P w K mg base "are_teeth" 1 ["teeth"] (sp_teeth K)) (M_set_comb : Method P w K mg base C "set_comb" (CX1 P w) 2 ["self", "name", "teeth"] (sp_set (K := K) ea C)) : Method P w K mg base C "put" (CX1 P w) 3 ["self", "name", "teeth"] (sp_put (K := K) ea C) := by
  refine D.meth1 sc_Book_put (fun _ _ _ _ _ _ us hl => match us, hl with | [_, _, _], _ => rfl) (fun vs H Q E h => ?_) (fun f cdv A outer s H vs Q E hr h => ?_)
  · obtain ⟨b, l, G, cs, past, x, a, ts, rfl, _⟩ := h
    rfl
  · obtain ⟨b, l, G, cs, past, x, a, ts, rfl, B, ha, hxl, htl, q⟩ := h
    have S := sc_Book_put
    have hu := hu_of hr
    have B_cls := BA.cls
    unfold putD at q
    refine ⟨_, pss_cons (ps_if (pt_not (pt_val (pe_fn C_is_name (hr.mono (by decide)) rfl (pa_cons (pv 1) pa_nil))))
      (pss_one (ps_raise O_BadName rfl (pa_cons (pe_str) pa_nil)))
      (pss_nil))
    (pss_cons (ps_if (pt_not (pt_val (pe_fn C_are_teeth (hr.mono (by decide)) rfl (pa_cons (pv 2) pa_nil))))
      (pss_one (ps_raise O_BadTeeth rfl (pa_cons (pe_str) pa_nil)))
      (pss_nil))
    (pss_cons (ps_if (pt_cmp (pc_din hu (pv 1) (pe_fld (pv 0) rfl)))
      (pss_one (ps_raise O_NameTaken rfl (pa_cons (pe_str) pa_nil)))
      (pss_nil))
    (pss_cons (ps_if (pt_cmpR op_ge (pe_callB call_lenD rfl T.n_len PySem.boot_len (pa_cons (pe_fld (pv 0) rfl) pa_nil)) (pe_gint rfl V_MOST_COMBS) (nomark _))
      (pss_one (ps_raise O_BookFull rfl (pa_cons (pe_str) pa_nil)))
      (pss_nil))
    (pss_one (ps_ret (pe_mt (pv 0) B_cls M_set_comb (hr.mono (by decide)) (by first | exact pass0 | exact pass_try | exact pass1 | exact pass_E0) (pa_cons (pv 1) (pa_cons (pv 2) pa_nil)))))))), ?_⟩
    refine ⟨_, rfl, x, rfl, hxl, fun H1 s1 => ⟨_, rfl, ?_⟩⟩
    cases e1 : isName x with
    | false =>
      rw [e1, if_pos rfl] at q
      exact iteT ⟨bigr rfl, q H1 s1⟩
    | true =>
      rw [e1, if_neg (by decide)] at q
      refine iteF ?_
      refine ⟨_, rfl, a, ts, rfl, s1.seq ha, htl, fun H2 s2 => ⟨_, rfl, ?_⟩⟩
      have s12 := s1.trans s2
      cases e2 : areTeeth ts with
      | false =>
        rw [e2, if_pos rfl] at q
        exact iteT ⟨bigr rfl, q H2 s12⟩
      | true =>
        rw [e2, if_neg (by decide)] at q
        refine iteF ?_
        have B2 := B.same s12
        obtain ⟨dx, d, hb, gd, kvs, hd, kr⟩ := id B2.ins
        refine ⟨_, rfl, _, rfl, _, _, _, _, _, rfl, hb, BA.cls, BA.nc, lk_combs, d, _, rfl, DGet.k (k := Sum.inr x) hd, _, rfl, ?_⟩
        rw [kr.some]
        cases e3 : (cGet cs x).isSome with
        | true =>
          rw [e3, if_pos rfl] at q
          exact iteT ⟨bigr rfl, q H2 s12⟩
        | false =>
          rw [e3, if_neg (by decide)] at q
          refine iteF ?_
          refine ⟨_, rfl, _, _, _, _, _, rfl, hb, BA.cls, BA.nc, lk_combs, _, _, rfl, hd, _, _, rfl, rfl, _, rfl, ?_⟩
          rw [kr.length]
          refine ite2 (fun hc => ?_) (fun hc => ?_)
          · have h8 : 8 ≤ cs.length := by
              have : (8 : Int) ≤ (cs.length : Int) := by simpa using hc
              omega
            rw [if_pos h8] at q
            exact ⟨bigr rfl, q H2 s12⟩
          · have h8 : ¬ 8 ≤ cs.length := by
              have : ¬ (8 : Int) ≤ (cs.length : Int) := by simpa using hc
              omega
            rw [if_neg h8] at q
            exact ⟨_, rfl, b, dx, _, rfl, hb, rfl, _, rfl, _, rfl, b, l, G, cs, past, x, a, ts, rfl, B2, s12.seq ha, e2, e1, .inl (by omega), q.from s12⟩
def sp_bdrop (ea : Nat → Addr) (C : Addr) : Sp := fun vs H Q E => ∃ b l G cs past x, vs = [.ref b, .str x] ∧ Bk C G H b l cs past ∧ Deed ea C G H b l cs past Q E (dropD cs past x)
theorem sc_Book_drop : FnScope ["self", "name", "combs"] ["self", "name"] (defScope s_Book_drop) := ⟨rfl, rfl, rfl, by decide +kernel, rfl, by decide +kernel, by decide +kernel⟩
theorem ok_bdrop {ea : Nat → Addr} {C : Addr} (D : MethAt K C "Book" "drop" s_Book_drop) (T : Bn mg) (BA : BookAt K C) (M_check_comb : Method P w K mg base C "check_comb" (CX1 P w) 1 ["self", "name"] (sp_check ea C)) (M_do_deed : Method P w K mg base C "do_deed" (CX1 P w) 1 ["self", "combs"] (sp_do ea C)) :
    Method P w K mg base C "drop" (CX1 P w) 2 ["self", "name"] (sp_bdrop ea C) := by
  refine D.meth1 sc_Book_drop (fun _ _ _ _ _ _ us hl => match us, hl with | [_, _], _ => rfl) (fun vs H Q E h => ?_) (fun f cdv A outer s H vs Q E hr h => ?_)
  · obtain ⟨b, l, G, cs, past, x, rfl, _⟩ := h
    rfl
  · obtain ⟨b, l, G, cs, past, x, rfl, B, q⟩ := h
    have S := sc_Book_drop
    have hu := hu_of hr
    have B_cls := BA.cls
    obtain ⟨dx, d, hb, gd, kvs, hd, kr⟩ := id B.ins
    unfold dropD at q
    refine ⟨_, pss_cons (ps_expr (pe_mt (pv 0) B_cls M_check_comb (hr.mono (by decide)) (by first | exact pass0 | exact pass_try | exact pass1 | exact pass_E0) (pa_cons (pv 1) pa_nil)))
    (pss_cons (ps_set (i := 2) S.nd rfl (Or.inl rfl) (pe_callTy call_dictD rfl T.n_dict boot_dict (pa_cons (pe_fld (pv 0) rfl) pa_nil)))
    (pss_cons (ps_expr (pe_dpop1 (pv 2) (pv 1) ⟨rfl, rfl, rfl, rfl⟩))
    (pss_one (ps_ret (pe_mt (pv 0) B_cls M_do_deed (hr.mono (by decide)) (by first | exact pass0 | exact pass_try | exact pass1 | exact pass_E0) (pa_cons (pv 2) pa_nil)))))), ?_⟩
    refine ⟨_, rfl, _, _, _, rfl, hb, rfl, _, rfl, b, l, G, cs, past, x, rfl, B, ?_⟩
    rcases kr.val (x := x) with ⟨e1, e2⟩ | ⟨ts, t, e1, e2, e3, e4⟩
    · rw [e1] at q ⊢
      exact q H (Same.refl H)
    · rw [e1] at q ⊢
      refine iteT ?_
      have q : Deed ea C G H b l cs past Q E (full past (cDrop cs x)) := q
      refine ⟨_, rfl, _, _, _, _, _, rfl, hb, BA.cls, BA.nc, lk_combs, d, kvs, rfl, .inl hd, fun p np => ?_⟩
      have hp1 : upd H p (.dK kvs) p = some (.dK kvs) := upd_same
      refine ⟨_, rfl, p, rfl, .inl ⟨kvs, .inl hp1⟩, _, rfl, kvs, Sum.inr x, _, hp1, rfl, e2, ?_⟩
      rw [upd_upd]
      have s3 : Same H (upd H p (.dK (dropK kvs (Sum.inr x)))) := Same.new np
      have hp3 : upd H p (.dK (dropK kvs (Sum.inr x))) p = some (.dK (dropK kvs (Sum.inr x))) := upd_same
      generalize upd H p (.dK (dropK kvs (Sum.inr x))) = H3 at s3 hp3
      have B3 := B.same s3
      obtain ⟨lb, ll⟩ := B.liveB
      refine ⟨_, rfl, b, dx, _, rfl, s3 _ _ hb, rfl, _, rfl, b, l, G, cs, past, p, fun a => G a ∨ a = p, cDrop cs x, rfl, B3, ⟨.inr rfl, _, hp3, ?_⟩, B.good.drop, ?_, ?_⟩
      · exact (kr.mono (fun a o _ e => s3 a o e) fun _ g => .inl g).drop
      · rintro y (g | g)
        · exact ⟨fun z => B.nb (z ▸ g), fun z => B.nl (z ▸ g), B3.live y g⟩
        · subst g
          exact ⟨fun z => lb (z ▸ np), fun z => ll (z ▸ np), by rw [hp3]; simp⟩
      · unfold full at q
        by_cases h3 : 300 ≤ past.length
        · rw [if_pos h3] at q ⊢
          exact q H3 s3
        · rw [if_neg h3] at q ⊢
          intro H4 off B4
          refine q H4 _ ⟨fun a o e n1 n2 => (off a n1 n2).trans (s3 a o e), fun a h => ?_, fun a g => ?_⟩ B4
          · obtain ⟨lb4, ll4⟩ := B4.liveB
            by_cases z : a = b
            · rw [z]; exact lb4
            · by_cases z2 : a = l
              · rw [z2]; exact ll4
              · rw [off a z z2]; exact live_same s3 a h
          · rcases g with g | g | g
            · exact .inl g
            · exact .inl g
            · rw [g]; exact .inr np
theorem in_int (t : Int) (ts : List Int) : inV (V.int t) (ts.map V.int) = decide (t ∈ ts) := by
  unfold inV
  rw [List.any_map, Bool.eq_iff_iff, List.any_eq_true, decide_eq_true_eq]
  constructor
  · rintro ⟨x, hx, e⟩
    have : x = t := by
      have e' : (x == t) = true := e
      exact eq_of_beq e'
    rw [← this]; exact hx
  · intro h
    exact ⟨t, h, beq_self_eq_true t⟩
def sp_ctooth (ea : Nat → Addr) : Sp := fun vs H Q E => ∃ t : Int, vs = [.int t] ∧ (if inR t = true then Q .non H else E (.ref (ea 5)) none H)
theorem sc_check_tooth : FnScope ["tooth"] ["tooth"] (defScope s_check_tooth) := ⟨rfl, rfl, rfl, by decide +kernel, rfl, by decide +kernel, by decide +kernel⟩
theorem ok_ctooth {ea : Nat → Addr} (D : DefAt K mg "check_tooth" s_check_tooth) (T : Bn mg) (V_MOST_TOOTH : ∃ t, mg "MOST_TOOTH" = some (.int 7 t)) (O_BadTooth : Err K mg "BadTooth" (ea 5)) : Callee1 P w K mg base "check_tooth" 1 ["tooth"] (sp_ctooth ea) := by
  refine D.callee1 sc_check_tooth (fun _ _ _ _ _ _ us hl => match us, hl with | [_], _ => rfl) (fun vs H Q E h => ?_) (fun f cdv A outer s H vs Q E hr h => ?_)
  · obtain ⟨t, rfl, _⟩ := h
    rfl
  · obtain ⟨t, rfl, q⟩ := h
    have S := sc_check_tooth
    refine ⟨_, pss_one (ps_if (pt_not (pt_chain op_le op_le (pe_int) (pv 0) (pe_gint rfl V_MOST_TOOTH)))
      (pss_one (ps_raise O_BadTooth rfl (pa_cons (pe_str) pa_nil)))
      (pss_nil)), ?_⟩
    refine ⟨_, rfl, _, _, rfl, rfl, _, rfl, ?_⟩
    refine ite2 (fun h1 => ?_) (fun h1 => ?_)
    · have h1 : (0 : Int) ≤ t := by simpa using h1
      refine ⟨_, _, rfl, rfl, _, rfl, ?_⟩
      by_cases h2 : t ≤ 7
      · rw [if_pos (inR_iff.mpr ⟨h1, h2⟩)] at q
        rw [decide_eq_true h2]
        exact iteF q
      · rw [if_neg (fun z => h2 (inR_iff.mp z).2)] at q
        rw [decide_eq_false h2]
        exact iteT ⟨bigr rfl, q⟩
    · have h1 : ¬ (0 : Int) ≤ t := by simpa using h1
      rw [if_neg (fun z => h1 (inR_iff.mp z).1)] at q
      exact ⟨_, rfl, iteT ⟨bigr rfl, q⟩⟩
theorem teeth_snoc {ts : List Int} {t : Int} (h : GT ts) (hr : inR t = true) (hn : t ∉ ts) : areTeeth (ts ++ [t]) = true := by
  refine teeth_iff.mpr ⟨List.mem_append_left _ (gt_zero h), ?_, fun u hu => ?_⟩
  · exact nd_snoc (nodup_lt (gt_lt h)) hn
  · rcases List.mem_append.mp hu with z | z
    · exact gt_in h u z
    · rw [List.mem_singleton.mp z]; exact inR_iff.mp hr
def sp_badd (ea : Nat → Addr) (C : Addr) : Sp := fun vs H Q E => ∃ b l G cs past x t, vs = [.ref b, .str x, .int t] ∧ Bk C G H b l cs past ∧ Deed ea C G H b l cs past Q E (addD cs past x t)
theorem sc_Book_add_tooth : FnScope ["self", "name", "tooth"] ["self", "name", "tooth"] (defScope s_Book_add_tooth) := ⟨rfl, rfl, rfl, by decide +kernel, rfl, by decide +kernel, by decide +kernel⟩
theorem ok_badd {ea : Nat → Addr} {C : Addr} (D : MethAt K C "Book" "add_tooth" s_Book_add_tooth) (T : Bn mg) (BA : BookAt K C) (O_ToothThere : Err K mg "ToothThere" (ea 6)) (M_check_comb : Method P w K mg base C "check_comb" (CX1 P w) 1 ["self", "name"] (sp_check ea C))
    (C_check_tooth : Callee1 P w K mg base "check_tooth" 1 ["tooth"] (sp_ctooth ea)) (M_set_comb : Method P w K mg base C "set_comb" (CX1 P w) 2 ["self", "name", "teeth"] (sp_set (K := K) ea C)) : Method P w K mg base C "add_tooth" (CX1 P w) 3 ["self", "name", "tooth"] (sp_badd ea C) := by
  refine D.meth1 sc_Book_add_tooth (fun _ _ _ _ _ _ us hl => match us, hl with | [_, _, _], _ => rfl) (fun vs H Q E h => ?_) (fun f cdv A outer s H vs Q E hr h => ?_)
  · obtain ⟨b, l, G, cs, past, x, t, rfl, _⟩ := h
    rfl
  · obtain ⟨b, l, G, cs, past, x, t, rfl, B, q⟩ := h
    have S := sc_Book_add_tooth
    have hu := hu_of hr
    have B_cls := BA.cls
    obtain ⟨dx, d, hb, gd, kvs, hd, kr⟩ := id B.ins
    unfold addD at q
    refine ⟨_, pss_cons (ps_expr (pe_mt (pv 0) B_cls M_check_comb (hr.mono (by decide)) (by first | exact pass0 | exact pass_try | exact pass1 | exact pass_E0) (pa_cons (pv 1) pa_nil)))
    (pss_cons (ps_expr (pe_fn1 C_check_tooth (hr.mono (by decide)) (by first | exact pass_try | exact pass1 | exact pass_E0) rfl (pa_cons (pv 2) pa_nil)))
    (pss_cons (ps_if (pt_cmpR op_in_seq (pv 2) (pe_dget hu (pe_fld (pv 0) rfl) (pv 1) (fun _ _ => rfl)) (by with_unfolding_all rfl))
      (pss_one (ps_raise O_ToothThere rfl (pa_cons (pe_str) pa_nil)))
      (pss_nil))
    (pss_one (ps_ret (pe_mt (pv 0) B_cls M_set_comb (hr.mono (by decide)) (by first | exact pass0 | exact pass_try | exact pass1 | exact pass_E0) (pa_cons (pv 1) (pa_cons (pe_op op_cat (pe_dget hu (pe_fld (pv 0) rfl) (pv 1) (fun _ _ => rfl)) (pe_lst (pa_cons (pv 2) pa_nil))) pa_nil))))))), ?_⟩
    refine ⟨_, rfl, _, _, _, rfl, hb, rfl, _, rfl, b, l, G, cs, past, x, rfl, B, ?_⟩
    rcases kr.val (x := x) with ⟨e1, e2⟩ | ⟨ts, a, e1, e2, e3, e4⟩
    · rw [e1] at q ⊢
      exact q H (Same.refl H)
    · rw [e1] at q ⊢
      refine iteT ?_
      have gx := B.good.ok _ (get_mem e1)
      have dg : DGet H d (kV (Sum.inr x)) (some (.ref a)) := by rw [← e2]; exact DGet.k hd
      dsimp only at q
      refine ⟨_, rfl, t, rfl, ?_⟩
      cases hr5 : inR t with
      | false =>
        rw [hr5, if_pos rfl] at q
        exact iteF (q H (Same.refl H))
      | true =>
        rw [hr5, if_neg (by decide)] at q
        refine iteT ?_
        refine ⟨_, rfl, _, rfl, _, _, _, _, _, rfl, hb, BA.cls, BA.nc, lk_combs, _, rfl, d, _, rfl, dg, _, _, rfl, .inl (SqL.of e3), rfl, flats ts, _, rfl, ?_⟩
        rw [if_neg (by decide), in_int]
        by_cases ht : t ∈ ts
        · rw [if_pos ht] at q
          rw [decide_eq_true ht]
          exact iteT ⟨bigr rfl, q H (Same.refl H)⟩
        · rw [if_neg ht] at q
          rw [decide_eq_false ht]
          refine iteF ?_
          refine ⟨_, rfl, b, dx, _, rfl, hb, rfl, _, rfl, _, rfl, _, _, _, _, _, rfl, hb, BA.cls, BA.nc, lk_combs, _, rfl, d, _, rfl, dg, _, rfl, bigr rfl, fun p np => ?_⟩
          have s1 : Same H (upd H p (.lst [V.int t])) := Same.new np
          have hlen := gt_len gx.2
          refine ⟨a, p, _, _, rfl, rfl, s1 _ _ e3, upd_same, ?_, fun p2 np2 => ?_⟩
          · rw [List.length_map]
            exact big (by show ts.length + 1 ≤ 1000; have e : ts.length ≤ 8 := hlen; omega)
          have s2 : Same H (upd (upd H p (.lst [V.int t])) p2 (.lst (ts.map V.int ++ [V.int t]))) := s1.put (s1.free np2)
          refine ⟨b, l, G, cs, past, x, p2, ts ++ [t], rfl, B.same s2, SqL.of ?_, teeth_snoc gx.2 hr5 ht, gx.1, .inr (by rw [e1]; rfl), q.from s2⟩
          rw [upd_same, List.map_append]
          rfl
theorem gt_filter {ts : List Int} {t : Int} (h : GT ts) (h0 : t ≠ 0) : GT (ts.filter fun u => decide (u ≠ t)) := by
  obtain ⟨f, rfl, hf⟩ := h
  refine ⟨fun i => f i && decide (((i : Nat) : Int) ≠ t), ?_, ?_⟩
  · rw [List.filter_map, List.filter_filter]
    congr 1
    apply List.filter_congr
    intro i _
    show (decide (((i : Nat) : Int) ≠ t) && f i) = _
    rw [Bool.and_comm]
  · show (f 0 && decide (((0 : Nat) : Int) ≠ t)) = true
    rw [hf, Bool.true_and]
    exact decide_eq_true (fun z => h0 z.symm)
def sp_boff (ea : Nat → Addr) (C : Addr) : Sp := fun vs H Q E => ∃ b l G cs past x t, vs = [.ref b, .str x, .int t] ∧ Bk C G H b l cs past ∧ Deed ea C G H b l cs past Q E (offD cs past x t)
def neI (t : Int) (v : V) : Bool := match v with
  | .int u => decide (u ≠ t)
  | _ => false
theorem filter_ne (t : Int) (ts : List Int) : ((ts.map V.int).filter (neI t)).map (fun v => v) = (ts.filter fun u => decide (u ≠ t)).map V.int := by
  rw [List.map_id', List.filter_map]
  rfl
theorem sc_Book_take_off : FnScope ["self", "name", "tooth"] ["self", "name", "tooth"] (defScope s_Book_take_off) := ⟨rfl, rfl, rfl, by decide +kernel, rfl, by decide +kernel, by decide +kernel⟩
theorem ok_boff {ea : Nat → Addr} {C : Addr} (D : MethAt K C "Book" "take_off" s_Book_take_off) (T : Bn mg) (BA : BookAt K C) (O_FirstTooth : Err K mg "FirstTooth" (ea 7)) (O_ToothMissing : Err K mg "ToothMissing" (ea 8)) (M_check_comb : Method P w K mg base C "check_comb" (CX1 P w) 1 ["self", "name"] (sp_check ea C))
    (C_check_tooth : Callee1 P w K mg base "check_tooth" 1 ["tooth"] (sp_ctooth ea)) (M_set_comb : Method P w K mg base C "set_comb" (CX1 P w) 2 ["self", "name", "teeth"] (sp_set (K := K) ea C)) : Method P w K mg base C "take_off" (CX1 P w) 3 ["self", "name", "tooth"] (sp_boff ea C) := by
  refine D.meth1 sc_Book_take_off (fun _ _ _ _ _ _ us hl => match us, hl with | [_, _, _], _ => rfl) (fun vs H Q E h => ?_) (fun f cdv A outer s H vs Q E hr h => ?_)
  · obtain ⟨b, l, G, cs, past, x, t, rfl, _⟩ := h
    rfl
  · obtain ⟨b, l, G, cs, past, x, t, rfl, B, q⟩ := h
    have S := sc_Book_take_off
    have hu := hu_of hr
    have B_cls := BA.cls
    obtain ⟨dx, d, hb, gd, kvs, hd, kr⟩ := id B.ins
    unfold offD at q
    refine ⟨_, pss_cons (ps_expr (pe_mt (pv 0) B_cls M_check_comb (hr.mono (by decide)) (by first | exact pass0 | exact pass_try | exact pass1 | exact pass_E0) (pa_cons (pv 1) pa_nil)))
    (pss_cons (ps_expr (pe_fn1 C_check_tooth (hr.mono (by decide)) (by first | exact pass_try | exact pass1 | exact pass_E0) rfl (pa_cons (pv 2) pa_nil)))
    (pss_cons (ps_if (pt_cmpR op_eq (pv 2) (pe_int) (nomark _))
      (pss_one (ps_raise O_FirstTooth rfl (pa_cons (pe_str) pa_nil)))
      (pss_nil))
    (pss_cons (ps_if (pt_cmpR op_notIn_seq (pv 2) (pe_dget hu (pe_fld (pv 0) rfl) (pv 1) (fun _ _ => rfl)) (by with_unfolding_all rfl))
      (pss_one (ps_raise O_ToothMissing rfl (pa_cons (pe_str) pa_nil)))
      (pss_nil))
    (pss_one (ps_ret (pe_mt (pv 0) B_cls M_set_comb (hr.mono (by decide)) (by first | exact pass0 | exact pass_try | exact pass1 | exact pass_E0) (pa_cons (pv 1) (pa_cons (pe_comp (own := ["other"]) (caps := [(2, "tooth")]) rfl ⟨rfl, rfl, rfl, rfl, ⟨⟨rfl, rfl, .inl rfl⟩, trivial⟩⟩ (pi_list (pe_dget hu (pe_fld (pv 0) rfl) (pv 1) (fun _ _ => rfl))) (fun _ _ _ _ _ _ => pg_name (i := 0) (nd_comp (by decide +kernel)) rfl (Or.inl rfl)) (fun _ _ _ _ _ _ => pts_one (pt_cmpR op_ne (pv 0) (pv 1) (nomark _))) (fun _ _ _ _ _ _ => pv 0)) pa_nil)))))))), ?_⟩
    refine ⟨_, rfl, _, _, _, rfl, hb, rfl, _, rfl, b, l, G, cs, past, x, rfl, B, ?_⟩
    rcases kr.val (x := x) with ⟨e1, e2⟩ | ⟨ts, a, e1, e2, e3, e4⟩
    · rw [e1] at q ⊢
      exact q H (Same.refl H)
    · rw [e1] at q ⊢
      refine iteT ?_
      have gx := B.good.ok _ (get_mem e1)
      have dg : DGet H d (kV (Sum.inr x)) (some (.ref a)) := by rw [← e2]; exact DGet.k hd
      dsimp only at q
      refine ⟨_, rfl, t, rfl, ?_⟩
      cases hr5 : inR t with
      | false =>
        rw [hr5, if_pos rfl] at q
        exact iteF (q H (Same.refl H))
      | true =>
        rw [hr5, if_neg (by decide)] at q
        refine iteT ?_
        refine ⟨_, rfl, rfl, _, rfl, ?_⟩
        rw [dec_ii]
        by_cases h0 : t = 0
        · rw [if_pos h0] at q
          rw [decide_eq_true h0]
          exact iteT ⟨bigr rfl, q H (Same.refl H)⟩
        · rw [if_neg h0] at q
          rw [decide_eq_false h0]
          refine iteF ?_
          refine ⟨_, rfl, _, rfl, _, _, _, _, _, rfl, hb, BA.cls, BA.nc, lk_combs, _, rfl, d, _, rfl, dg, _, _, rfl, .inl (SqL.of e3), rfl, flats ts, _, rfl, ?_⟩
          rw [if_pos rfl, in_int]
          by_cases ht : t ∈ ts
          · rw [if_neg (fun z => z ht)] at q
            rw [decide_eq_true ht]
            refine iteF ?_
            refine ⟨_, rfl, b, dx, _, rfl, hb, rfl, _, rfl, _, rfl, _, _, _, _, _, rfl, hb, BA.cls, BA.nc, lk_combs, _, rfl, d, _, rfl, dg, a, rfl, ⟨_, SqL.of e3⟩, fun Dc hD => ?_⟩
            have hlen : ts.length ≤ 8 := gt_len gx.2
            refine comp_s (capv := [some (.int t)]) (by rfl) (gives_list K a (ts.map V.int)) (by rw [List.length_map]; exact big (by omega)) hD (fun H' s' => SqL.of (s' _ _ e3)) (neI t) (fun v => v) ?_ ?_ ?_
            · intro v hv H' R s' h
              obtain ⟨u, hu', rfl⟩ := List.mem_map.mp hv
              refine ⟨_, rfl, _, rfl, rfl, _, rfl, ?_⟩
              have e : (!decide (V.int u = V.int t)) = neI t (V.int u) := by
                show _ = decide (u ≠ t)
                rw [dec_ii, decide_not]
              rw [e]
              exact h H' (Same.refl _)
            · intro v hv hp H' R s' h
              exact ⟨_, rfl, h H' (Same.refl _)⟩
            · intro H' s' e
              rw [filter_ne] at e
              have gf := gt_filter gx.2 h0
              refine ⟨b, l, G, cs, past, x, Dc, _, rfl, B.same s', SqL.of e, gt_teeth gf, gx.1, .inr (by rw [e1]; rfl), ?_⟩
              rw [gt_eq gf]
              exact q.from s'
          · rw [if_pos ht] at q
            rw [decide_eq_false ht]
            exact iteT ⟨bigr rfl, q H (Same.refl H)⟩
def sp_bundo (ea : Nat → Addr) (C : Addr) : Sp := fun vs H Q E => ∃ b l G cs past, vs = [.ref b] ∧ Bk C G H b l cs past ∧ ((past = [] ∧ E (.ref (ea 10)) none H) ∨ ∃ ps p, past = ps ++ [p] ∧ ∀ H', Mv b l G G H H' → Bk C G H' b l p ps → Q (.int (ps.length : Int)) H')
theorem paired_last {α β : Type} {R : α → β → Prop} : ∀ {l : List α} {ps : List β} {p : β}, Paired R l (ps ++ [p]) → ∃ l' a, l = l' ++ [a] ∧ Paired R l' ps ∧ R a p
  | _, [], p, .cons h .nil => ⟨[], _, rfl, .nil, h⟩
  | _, q :: ps, p, .cons h r => by
    obtain ⟨l', a, e, r', ha⟩ := paired_last (ps := ps) r
    exact ⟨_ :: l', a, by rw [e]; rfl, .cons h r', ha⟩
theorem sc_Book_undo : FnScope ["self"] ["self"] (defScope s_Book_undo) := ⟨rfl, rfl, rfl, by decide +kernel, rfl, by decide +kernel, by decide +kernel⟩
theorem ok_bundo {ea : Nat → Addr} {C : Addr} (D : MethAt K C "Book" "undo" s_Book_undo) (T : Bn mg) (BA : BookAt K C) (O_NothingDone : Err K mg "NothingDone" (ea 10)) : Method P w K mg base C "undo" (CX1 P w) 1 ["self"] (sp_bundo ea C) := by
  refine D.meth1 sc_Book_undo (fun _ _ _ _ _ _ us hl => match us, hl with | [_], _ => rfl) (fun vs H Q E h => ?_) (fun f cdv A outer s H vs Q E hr h => ?_)
  · obtain ⟨b, l, G, cs, past, rfl, _⟩ := h
    rfl
  · obtain ⟨b, l, G, cs, past, rfl, B, q⟩ := h
    have S := sc_Book_undo
    have B_cls := BA.cls
    obtain ⟨dx, d, hb, dr0⟩ := id B.ins
    obtain ⟨vs, hl, pr⟩ := id B.lst
    have hbl : b ≠ l := ne_of hb hl (by intro z; cases z)
    refine ⟨_, pss_cons (ps_if (pt_cmpR op_eq (pe_callB call_len_seq rfl T.n_len PySem.boot_len (pa_cons (pe_fld (pv 0) rfl) pa_nil)) (pe_int) (nomark _))
      (pss_one (ps_raise O_NothingDone rfl (pa_cons (pe_str) pa_nil)))
      (pss_nil))
    (pss_cons (ps_fld (pv 0) (pe_bm0 PySem.F.plainAttrs_list PySem.F.slot_list_pop PySem.F.type_list_pop mt_pop (pe_fld (pv 0) rfl)) rfl)
    (pss_one (ps_ret (pe_callB call_len_seq rfl T.n_len PySem.boot_len (pa_cons (pe_fld (pv 0) rfl) pa_nil))))), ?_⟩
    refine ⟨_, rfl, _, _, _, _, _, rfl, hb, BA.cls, BA.np, lk_past, _, _, rfl, .inl (SqL.of hl), rfl, _, rfl, ?_⟩
    rw [pr.length, dec_ii]
    rcases q with ⟨rfl, q⟩ | ⟨ps, p, rfl, q⟩
    · exact iteT ⟨bigr rfl, q⟩
    · have hn : decide (((ps ++ [p]).length : Int) = 0) = false := by
        rw [List.length_append, List.length_singleton]
        exact decide_eq_false (by omega)
      rw [hn]
      refine iteF ?_
      obtain ⟨vs', a, rfl, pr', d1, rfl, dr1⟩ := paired_last pr
      refine ⟨_, rfl, _, _, _, _, _, rfl, hb, BA.cls, BA.np, lk_past, .inl ⟨rfl, _, SqL.of hl⟩, l, _, V.ref d1, rfl, rfl, hl, by simp, ?_⟩
      rw [List.dropLast_concat]
      have hb1 : upd H l (.lst vs') b = some (.ins C dx [("combs", .ref d), ("past", .ref l)]) := by rw [upd_ne hbl]; exact hb
      refine ⟨_, rfl, b, C, dx, _, rfl, hb1, BA.cls, BA.nc, two_len, ?_⟩
      rw [putF_combs]
      have hb2 : upd (upd H l (.lst vs')) b (.ins C dx [("combs", .ref d1), ("past", .ref l)]) b = some (.ins C dx [("combs", .ref d1), ("past", .ref l)]) := upd_same
      have hl2 : upd (upd H l (.lst vs')) b (.ins C dx [("combs", .ref d1), ("past", .ref l)]) l = some (.lst vs') := by rw [upd_ne (Ne.symm hbl), upd_same]
      have off : ∀ a, a ≠ b → a ≠ l → upd (upd H l (.lst vs')) b (.ins C dx [("combs", .ref d1), ("past", .ref l)]) a = H a := fun a n1 n2 => by rw [upd_ne n1, upd_ne n2]
      generalize upd (upd H l (.lst vs')) b (.ins C dx [("combs", .ref d1), ("past", .ref l)]) = H2 at hb2 hl2 off
      refine ⟨_, rfl, _, _, _, _, _, rfl, hb2, BA.cls, BA.np, lk_past, _, _, rfl, .inl (SqL.of hl2), ?_⟩
      rw [pr'.length]
      have sG : ∀ a o, G a → H a = some o → H2 a = some o := fun a o g e => (off a (fun z => B.nb (z ▸ g)) (fun z => B.nl (z ▸ g))).trans e
      refine q H2 ⟨fun a o e n1 n2 => (off a n1 n2).trans e, fun a h => ?_, fun a g => .inl g⟩ ⟨fun x g => ?_, B.nb, B.nl, ⟨dx, d1, hb2, dr1.mono sG fun _ g => g⟩, ⟨vs', hl2, ?_⟩, B.goods p (by simp), fun c hc => B.goods c (List.mem_append_left _ hc), ?_⟩
      · by_cases z : a = b
        · rw [z, hb2]; simp
        · by_cases z2 : a = l
          · rw [z2, hl2]; simp
          · rw [off a z z2]; exact h
      · rw [off x (fun z => B.nb (z ▸ g)) (fun z => B.nl (z ▸ g))]; exact B.live x g
      · exact Paired.mono (fun _ _ ⟨d, e, r⟩ => ⟨d, e, r.mono sG fun _ g => g⟩) pr'
      · have := B.few
        rw [List.length_append] at this
        omega
def tellT (Q : VK) : VK := fun v H1 => (2 : Nat) ≤ sizeLine ∧ ∀ p, H1 p = none → Q (.ref p) (upd H1 p (.tup [.str (Str.ofString "told"), v]))
def refuT (K : PySem.W.Frag) (ea : Nat → Addr) (ce : Value) (Q : VK) : XK := fun c _ H1 => ∃ D j, c = .ref D ∧ KindF K ea D j ∧ PySem.W.exmOne K (.ref D) ce = some true ∧ ∀ p l H2, Same H1 H2 → H1 l = none → H2 l = some (.lst [.str (errName j)]) → H2 p = none → Q (.ref p) (upd H2 p (.tup [.str (Str.ofString "refused"), .ref l]))
def spTry1 (K : PySem.W.Frag) (ea : Nat → Addr) (ce : Value) (C : Addr) (m : Str) (sp : Sp) : Sp := fun vs H Q _ => ∃ b x dx fs, vs = [.ref b, x] ∧ H b = some (.ins C dx fs) ∧ fs.lookup m = none ∧ sp [.ref b, x] H (tellT Q) (refuT K ea ce Q)
def spTry2 (K : PySem.W.Frag) (ea : Nat → Addr) (ce : Value) (C : Addr) (m : Str) (sp : Sp) : Sp := fun vs H Q _ => ∃ b x y dx fs, vs = [.ref b, x, y] ∧ H b = some (.ins C dx fs) ∧ fs.lookup m = none ∧ sp [.ref b, x, y] H (tellT Q) (refuT K ea ce Q)
def spTry0 (K : PySem.W.Frag) (ea : Nat → Addr) (ce : Value) (C : Addr) (m : Str) (sp : Sp) : Sp := fun vs H Q _ => ∃ b dx fs, vs = [.ref b] ∧ H b = some (.ins C dx fs) ∧ fs.lookup m = none ∧ sp [.ref b] H (tellT Q) (refuT K ea ce Q)
theorem full_few {past : List Combs} {cs : Combs} (h : past.length < 300) : full past cs = .ok cs := by unfold full; rw [if_neg (by omega)]
theorem full_ok {past : List Combs} {cs cs' : Combs} (h : full past cs = .ok cs') : cs' = cs := by
  unfold full at h
  split at h
  · cases h
  · exact (Except.ok.inj h).symm
theorem full_err {past : List Combs} {cs : Combs} {j : Nat} (h : full past cs = .error j) : j = 9 := by
  unfold full at h
  split at h
  · cases h; rfl
  · cases h
/-- which deed, by its number -/
def DoOk (K : PySem.W.Frag) (H : Hp) (d : Int) (x : Str) (mv : V) (cs : Combs) (past : List Combs) (r : Except Nat Combs) : Prop :=
  (d = 0 ∧ ∃ (a : Addr) (ts : List Int), mv = .ref a ∧ SqL K H a (ts.map V.int) ∧ ts.length ≤ 1000 ∧ r = putD cs past x ts) ∨ (d = 1 ∧ (∃ t, mv = .int t) ∧ r = dropD cs past x) ∨ (d = 2 ∧ ∃ t, mv = .int t ∧ r = addD cs past x t) ∨ (d = 3 ∧ ∃ t, mv = .int t ∧ r = offD cs past x t)
theorem DoOk.same {K : PySem.W.Frag} {H H' : Hp} {d : Int} {x : Str} {mv : V} {cs : Combs} {past : List Combs} {r : Except Nat Combs} (h : DoOk K H d x mv cs past r) (s : Same H H') : DoOk K H' d x mv cs past r := by
  rcases h with ⟨h0, a, ts, e, ha, h⟩ | h | h | h
  · exact .inl ⟨h0, a, ts, e, s.seq ha, h⟩
  · exact .inr (.inl h)
  · exact .inr (.inr (.inl h))
  · exact .inr (.inr (.inr h))
def sp_do8 (K : PySem.W.Frag) (ea : Nat → Addr) (ce : Value) (C : Addr) : Sp := fun vs H Q _ => ∃ b l G cs past d x mv, vs = [.ref b, .int d, .str x, mv] ∧ Bk C G H b l cs past ∧ x.length ≤ 1000 ∧
  ((∃ r, DoOk K H d x mv cs past r ∧ Deed ea C G H b l cs past (tellT Q) (refuT K ea ce Q) r) ∨ (d = 4 ∧ ((past = [] ∧ refuT K ea ce Q (.ref (ea 10)) none H) ∨ ∃ ps p, past = ps ++ [p] ∧ ∀ H', Mv b l G G H H' → Bk C G H' b l p ps → tellT Q (.int (ps.length : Int)) H')))
theorem dec_no {i j : Int} (h : ¬ i = j) : decide (V.int i = V.int j) = false := by rw [dec_ii]; exact decide_eq_false h
theorem dec_yes {i : Int} : decide (V.int i = V.int i) = true := decide_eq_true rfl
theorem sc_do : FnScope ["_law_book_here", "_law_deed", "_law_word", "_law_more", "_law_e"] ["_law_book_here", "_law_deed", "_law_word", "_law_more"] (defScope s_do) := ⟨rfl, rfl, rfl, by decide +kernel, rfl, by decide +kernel, by decide +kernel⟩
theorem ok_do8 (D : DefAt K mg "_law_do" s_do) (T : Bn mg) {ea : Nat → Addr} {ce : Value} {C : Addr} (V_CombError : mg "CombError" = some ce) (B_cls : Cls K C) (C_kind : HCallee P w K mg base "_law_kind" 1 ["_law_e"] (spKind K ea))
    (M_put : Method P w K mg base C "put" (CX1 P w) 3 ["self", "name", "teeth"] (sp_put (K := K) ea C)) (M_drop : Method P w K mg base C "drop" (CX1 P w) 2 ["self", "name"] (sp_bdrop ea C)) (M_add_tooth : Method P w K mg base C "add_tooth" (CX1 P w) 3 ["self", "name", "tooth"] (sp_badd ea C)) (M_take_off : Method P w K mg base C "take_off" (CX1 P w) 3 ["self", "name", "tooth"] (sp_boff ea C))
    (M_undo : Method P w K mg base C "undo" (CX1 P w) 1 ["self"] (sp_bundo ea C)) : Callee P w K mg base "_law_do" 4 ["_law_book_here", "_law_deed", "_law_word", "_law_more"] (sp_do8 K ea ce C) := by
  refine D.callee sc_do (fun _ _ _ _ _ _ us hl => match us, hl with | [_, _, _, _], _ => rfl) (fun vs H Q E h => ?_) (fun f cdv A outer s H vs Q E hr h => ?_)
  · obtain ⟨b, l, G, cs, past, d, x, mv, rfl, _⟩ := h
    rfl
  · obtain ⟨b, l, G, cs, past, d, x, mv, rfl, B, hxl, h⟩ := h
    have S := sc_do
    obtain ⟨dx, dd, hb, _⟩ := id B.ins
    refine ⟨_, pss_one (ps_try (i := 4) rfl rfl S.nd rfl rfl rfl V_CombError (fun E pn => pss_cons (ps_if (pt_cmpR op_eq (pv 1) (pe_int) (nomark _))
        (pss_one (ps_ret (pe_tup (pa_cons (pe_str) (pa_cons (pe_mt (pv 0) B_cls M_put (hr.mono (by decide)) (by first | exact pass0 | exact pass_try | exact pass1 | exact pass_E0) (pa_cons (pv 2) (pa_cons (pv 3) pa_nil))) pa_nil)))))
        (pss_nil))
      (pss_cons (ps_if (pt_cmpR op_eq (pv 1) (pe_int) (nomark _))
        (pss_one (ps_ret (pe_tup (pa_cons (pe_str) (pa_cons (pe_mt (pv 0) B_cls M_drop (hr.mono (by decide)) (by first | exact pass0 | exact pass_try | exact pass1 | exact pass_E0) (pa_cons (pv 2) pa_nil)) pa_nil)))))
        (pss_nil))
      (pss_cons (ps_if (pt_cmpR op_eq (pv 1) (pe_int) (nomark _))
        (pss_one (ps_ret (pe_tup (pa_cons (pe_str) (pa_cons (pe_mt (pv 0) B_cls M_add_tooth (hr.mono (by decide)) (by first | exact pass0 | exact pass_try | exact pass1 | exact pass_E0) (pa_cons (pv 2) (pa_cons (pv 3) pa_nil))) pa_nil)))))
        (pss_nil))
      (pss_cons (ps_if (pt_cmpR op_eq (pv 1) (pe_int) (nomark _))
        (pss_one (ps_ret (pe_tup (pa_cons (pe_str) (pa_cons (pe_mt (pv 0) B_cls M_take_off (hr.mono (by decide)) (by first | exact pass0 | exact pass_try | exact pass1 | exact pass_E0) (pa_cons (pv 2) (pa_cons (pv 3) pa_nil))) pa_nil)))))
        (pss_nil))
      (pss_one (ps_ret (pe_tup (pa_cons (pe_str) (pa_cons (pe_mt0 (pv 0) B_cls M_undo (hr.mono (by decide)) (by first | exact pass0 | exact pass_try | exact pass1 | exact pass_E0)) pa_nil)))))))))
      (fun x c ox pn vs hc hd h2 hx => pss_one (ps_ret (pe_tup (pa_cons (pe_str) (pa_cons (pe_hand C_kind hr hx hc hd h2 (by decide) rfl (pa_cons (pv 4) pa_nil)) pa_nil)))))), ?_⟩
    refine ⟨refuT K ea ce Q, ?_, fun c H' x' hE hx' => ?_⟩
    · rcases h with ⟨r, h, dq⟩ | ⟨rfl, h⟩
      · rcases h with ⟨rfl, a, ts, rfl, ha, htl, rfl⟩ | ⟨rfl, ⟨t, rfl⟩, rfl⟩ | ⟨rfl, t, rfl, rfl⟩ | ⟨rfl, t, rfl, rfl⟩
        · refine ⟨_, rfl, rfl, _, rfl, ?_⟩
          rw [dec_yes]
          exact iteT ⟨_, rfl, b, dx, _, rfl, hb, rfl, _, rfl, _, rfl, b, l, G, cs, past, x, a, ts, rfl, B, ha, big hxl, htl, dq⟩
        · refine ⟨_, rfl, rfl, _, rfl, ?_⟩
          rw [dec_no (by decide)]
          refine iteF ⟨_, rfl, rfl, _, rfl, ?_⟩
          rw [dec_yes]
          exact iteT ⟨_, rfl, b, dx, _, rfl, hb, rfl, _, rfl, b, l, G, cs, past, x, rfl, B, dq⟩
        · refine ⟨_, rfl, rfl, _, rfl, ?_⟩
          rw [dec_no (by decide)]
          refine iteF ⟨_, rfl, rfl, _, rfl, ?_⟩
          rw [dec_no (by decide)]
          refine iteF ⟨_, rfl, rfl, _, rfl, ?_⟩
          rw [dec_yes]
          exact iteT ⟨_, rfl, b, dx, _, rfl, hb, rfl, _, rfl, _, rfl, b, l, G, cs, past, x, t, rfl, B, dq⟩
        · refine ⟨_, rfl, rfl, _, rfl, ?_⟩
          rw [dec_no (by decide)]
          refine iteF ⟨_, rfl, rfl, _, rfl, ?_⟩
          rw [dec_no (by decide)]
          refine iteF ⟨_, rfl, rfl, _, rfl, ?_⟩
          rw [dec_no (by decide)]
          refine iteF ⟨_, rfl, rfl, _, rfl, ?_⟩
          rw [dec_yes]
          exact iteT ⟨_, rfl, b, dx, _, rfl, hb, rfl, _, rfl, _, rfl, b, l, G, cs, past, x, t, rfl, B, dq⟩
      · refine ⟨_, rfl, rfl, _, rfl, ?_⟩
        rw [dec_no (by decide)]
        refine iteF ⟨_, rfl, rfl, _, rfl, ?_⟩
        rw [dec_no (by decide)]
        refine iteF ⟨_, rfl, rfl, _, rfl, ?_⟩
        rw [dec_no (by decide)]
        refine iteF ⟨_, rfl, rfl, _, rfl, ?_⟩
        rw [dec_no (by decide)]
        exact iteF ⟨_, rfl, b, dx, _, rfl, hb, rfl, b, l, G, cs, past, rfl, B, h⟩
    · obtain ⟨Dd, j, rfl, kf, he, q⟩ := hE
      refine ⟨he, _, rfl, rfl, Dd, j, rfl, kf, fun p H2 s2 n2 e2 => ⟨bigr rfl, fun p' np' => ?_⟩⟩
      exact q p' p H2 s2 n2 e2 np'
theorem put_okG {cs cs' : Combs} {past : List Combs} {x : Str} {ts : List Int} (h : putD cs past x ts = .ok cs') : areTeeth ts = true ∧ cs' = cPut cs x (canon ts) := by
  unfold putD at h
  split at h
  · cases h
  · split at h
    · cases h
    · rename_i h2
      split at h
      · cases h
      · split at h
        · cases h
        · exact ⟨by simpa using h2, full_ok h⟩
theorem drop_okG {cs cs' : Combs} {past : List Combs} {x : Str} (h : dropD cs past x = .ok cs') : (∃ ts, cGet cs x = some ts) ∧ cs' = cDrop cs x := by
  unfold dropD at h
  split at h
  · cases h
  · rename_i h1
    refine ⟨?_, full_ok h⟩
    cases e : cGet cs x with
    | none => rw [e] at h1; exact absurd rfl h1
    | some ts => exact ⟨ts, rfl⟩
theorem add_okG {cs cs' : Combs} {past : List Combs} {x : Str} {t : Int} (h : addD cs past x t = .ok cs') : ∃ ts, cGet cs x = some ts ∧ inR t = true ∧ t ∉ ts ∧ cs' = cPut cs x (canon (ts ++ [t])) := by
  unfold addD at h
  split at h
  · cases h
  · rename_i ts e
    refine ⟨ts, e, ?_⟩
    split at h
    · cases h
    · rename_i h1
      split at h
      · cases h
      · rename_i h2
        exact ⟨by simpa using h1, h2, full_ok h⟩
theorem off_okG {cs cs' : Combs} {past : List Combs} {x : Str} {t : Int} (h : offD cs past x t = .ok cs') : ∃ ts, cGet cs x = some ts ∧ t ≠ 0 ∧ cs' = cPut cs x (ts.filter fun u => decide (u ≠ t)) := by
  unfold offD at h
  split at h
  · cases h
  · rename_i ts e
    refine ⟨ts, e, ?_⟩
    split at h
    · cases h
    · split at h
      · cases h
      · rename_i h2
        split at h
        · cases h
        · exact ⟨h2, full_ok h⟩
def sp_done (K : PySem.W.Frag) : Sp := fun vs H Q _ => ∃ z L cs past cs' d x mv, vs = [.ref z, .int d, .str x, mv] ∧ Kept L H z cs ∧ Good cs ∧ DoOk K H d x mv cs past (.ok cs') ∧ (∀ t, H t = none → L t) ∧ ∀ H' m, Same H H' → H m = none → Kept L H' m cs' → Q (.ref m) H'
theorem sc_done : FnScope ["_law_kept", "_law_deed", "_law_word", "_law_more", "_law_found"] ["_law_kept", "_law_deed", "_law_word", "_law_more"] (defScope s_done) := ⟨rfl, rfl, rfl, by decide +kernel, rfl, by decide +kernel, by decide +kernel⟩
theorem ok_done (D : DefAt K mg "_law_done" s_done) (T : Bn mg) : Callee P w K mg base "_law_done" 1 ["_law_kept", "_law_deed", "_law_word", "_law_more"] (sp_done K) := by
  refine D.callee sc_done (fun _ _ _ _ _ _ us hl => match us, hl with | [_, _, _, _], _ => rfl) (fun vs H Q E h => ?_) (fun f cdv A outer s H vs Q E hr h => ?_)
  · obtain ⟨z, L, cs, past, cs', d, x, mv, rfl, _⟩ := h
    rfl
  · obtain ⟨z, L, cs, past, cs', d, x, mv, rfl, kz, hg, hd, fL, q⟩ := h
    have S := sc_done
    have hu := hu_of hr
    obtain ⟨kvs, hz, kr⟩ := id kz
    refine ⟨_, pss_cons (ps_set (i := 4) S.nd rfl (Or.inl rfl) (pe_callTy call_dictD rfl T.n_dict boot_dict (pa_cons (pv 0) pa_nil)))
    (pss_cut (ps_if (pt_cmpR op_eq (pv 1) (pe_int) (nomark _))
      (pss_one (ps_dput hu (pv 4) (pv 2) (pe_callB call_sortedI rfl T.n_sorted boot_sorted (pa_cons (pv 3) pa_nil)) rfl))
      (pss_nil))
    (pss_cut (ps_if (pt_cmpR op_eq (pv 1) (pe_int) (nomark _))
      (pss_one (ps_expr (pe_dpop1 (pv 4) (pv 2) ⟨rfl, rfl, rfl, rfl⟩)))
      (pss_nil))
    (pss_cut (ps_if (pt_cmpR op_eq (pv 1) (pe_int) (nomark _))
      (pss_one (ps_dput hu (pv 4) (pv 2) (pe_callB call_sortedI rfl T.n_sorted boot_sorted (pa_cons (pe_op op_cat (pe_dget hu (pv 0) (pv 2) (fun _ _ => rfl)) (pe_lst (pa_cons (pv 3) pa_nil))) pa_nil)) rfl))
      (pss_nil))
    (pss_cut (ps_if (pt_cmpR op_eq (pv 1) (pe_int) (nomark _))
      (pss_one (ps_dput hu (pv 4) (pv 2) (pe_comp (own := ["_law_t"]) (caps := [(3, "_law_more")]) rfl ⟨rfl, rfl, rfl, rfl, ⟨⟨rfl, rfl, .inl rfl⟩, trivial⟩⟩ (pi_list (pe_dget hu (pv 0) (pv 2) (fun _ _ => rfl))) (fun _ _ _ _ _ _ => pg_name (i := 0) (nd_comp (by decide +kernel)) rfl (Or.inl rfl)) (fun _ _ _ _ _ _ => pts_one (pt_cmpR op_ne (pv 0) (pv 1) (nomark _))) (fun _ _ _ _ _ _ => pv 0)) rfl))
      (pss_nil))
    (pss_one (ps_ret (pv 4))))))), ?_⟩
    refine ⟨_, rfl, z, kvs, rfl, .inl hz, fun m nm => ?_⟩
    have s1 : Same H (upd H m (.dK kvs)) := Same.new nm
    have km : Kept L (upd H m (.dK kvs)) m cs := ⟨kvs, upd_same, kr.mono (fun a o _ e => s1 a o e) fun _ g => g⟩
    generalize upd H m (.dK kvs) = H1 at s1 km
    have hlen := hg.len
    -- the dict gets a list
    have put : ∀ (Hx H3 : Hp) (r : Addr) (us : List Int), Same H Hx → Kept L Hx m cs → Same Hx H3 → H3 r = some (.lst (us.map V.int)) → Hx r = none → ∃ kvs3, H3 m = some (.dK kvs3) ∧ kvs3.length < sizeLine ∧ Same H (upd H3 m (.dK (putK kvs3 (Sum.inr x) (.ref r)))) ∧ Kept L (upd H3 m (.dK (putK kvs3 (Sum.inr x) (.ref r)))) m (cPut cs x us) := by
      intro Hx H3 r us sx kx s3 hr3 nr
      obtain ⟨kvs3, hm3, hl3, k3⟩ := (kx.same s3).put (x := x) hr3 (fL r (sx.free nr))
      exact ⟨kvs3, hm3, Nat.lt_of_lt_of_le (by omega : kvs3.length < 1000) sizeBig, (sx.trans s3).put nm, k3⟩
    -- 0
    refine ⟨fun σ Hx => σ = [some (.ref z), some (.int d), some (.str x), some mv, some (.ref m)] ∧ Same H Hx ∧ Kept L Hx m (if d = 0 then cs' else cs), ?_, ?_⟩
    · refine ⟨_, rfl, rfl, _, rfl, ?_⟩
      by_cases h0 : d = 0
      · subst h0
        rw [dec_yes]
        refine iteT ?_
        rcases hd with ⟨_, a, ts, rfl, ha, htl, e⟩ | ⟨h, _⟩ | ⟨h, _⟩ | ⟨h, _⟩
        · obtain ⟨htt, rfl⟩ := put_okG e.symm
          obtain ⟨_, tn, tr⟩ := teeth_iff.mp htt
          refine ⟨_, rfl, a, ts, rfl, s1.seq ha, by have := teeth_len tn tr; omega, fun r ns' nr hp hs => ?_⟩
          have hc := canon_of hp hs tn tr
          subst hc
          obtain ⟨kvs3, hm3, hl3, s4, k4⟩ := put H1 _ r _ s1 km (Same.new nr) upd_same nr
          exact ⟨_, rfl, _, rfl, m, _, rfl, DPut.k (k := Sum.inr x) hm3 hl3, rfl, s4, by rw [if_pos rfl]; exact k4⟩
        all_goals exact absurd h (by decide)
      · rw [dec_no h0]
        exact iteF ⟨rfl, s1, by rw [if_neg h0]; exact km⟩
    clear s1 km
    rintro σ H1 ⟨rfl, s1, km⟩
    -- 1
    refine ⟨fun σ Hx => σ = [some (.ref z), some (.int d), some (.str x), some mv, some (.ref m)] ∧ Same H Hx ∧ Kept L Hx m (if d = 0 ∨ d = 1 then cs' else cs), ?_, ?_⟩
    · refine ⟨_, rfl, rfl, _, rfl, ?_⟩
      by_cases h0 : d = 1
      · subst h0
        rw [dec_yes]
        refine iteT ?_
        rw [if_neg (by decide)] at km
        rcases hd with ⟨h, _⟩ | ⟨_, ⟨t, rfl⟩, e⟩ | ⟨h, _⟩ | ⟨h, _⟩
        · exact absurd h (by decide)
        · obtain ⟨⟨ts, hgx⟩, rfl⟩ := drop_okG e.symm
          obtain ⟨kvs3, hm3, kd⟩ := km.drop (x := x)
          obtain ⟨kvs3', hm3', kr3⟩ := id km
          rw [hm3] at hm3'
          cases hm3'
          have hv : ∃ v, valV kvs3 (Sum.inr x) = some v := by
            have := kr3.some (x := x)
            rw [hgx] at this
            exact Option.isSome_iff_exists.mp this
          obtain ⟨v, hv⟩ := hv
          refine ⟨_, rfl, m, rfl, .inl ⟨kvs3, .inl hm3⟩, _, rfl, kvs3, Sum.inr x, v, hm3, rfl, hv, ?_⟩
          exact ⟨rfl, s1.put nm, by rw [if_pos (.inr rfl)]; exact kd⟩
        all_goals exact absurd h (by decide)
      · rw [dec_no h0]
        refine iteF ⟨rfl, s1, ?_⟩
        by_cases h1 : d = 0
        · rw [if_pos (.inl h1)]; rw [if_pos h1] at km; exact km
        · rw [if_neg (by omega)]; rw [if_neg h1] at km; exact km
    clear s1 km
    rintro σ H1 ⟨rfl, s1, km⟩
    -- 2
    refine ⟨fun σ Hx => σ = [some (.ref z), some (.int d), some (.str x), some mv, some (.ref m)] ∧ Same H Hx ∧ Kept L Hx m (if d = 0 ∨ d = 1 ∨ d = 2 then cs' else cs), ?_, ?_⟩
    · refine ⟨_, rfl, rfl, _, rfl, ?_⟩
      by_cases h0 : d = 2
      · subst h0
        rw [dec_yes]
        refine iteT ?_
        rw [if_neg (by decide)] at km
        rcases hd with ⟨h, _⟩ | ⟨h, _⟩ | ⟨_, t, rfl, e⟩ | ⟨h, _⟩
        · exact absurd h (by decide)
        · exact absurd h (by decide)
        · obtain ⟨ts, hgx, hr5, hnt, rfl⟩ := add_okG e.symm
          have gx := hg.ok _ (get_mem hgx)
          have hl8 : ts.length ≤ 8 := gt_len gx.2
          obtain ⟨kvs3, hz3, kr3⟩ := kz.same s1
          rcases kr3.val (x := x) with ⟨f1, _⟩ | ⟨ts', ta3, f1, f2, f3, f4⟩
          · rw [hgx] at f1; cases f1
          rw [hgx] at f1
          cases f1
          have dg3 : DGet H1 z (kV (Sum.inr x)) (some (.ref ta3)) := by rw [← f2]; exact DGet.k hz3
          refine ⟨_, rfl, _, rfl, z, _, rfl, dg3, _, rfl, bigr rfl, fun p np => ?_⟩
          have sa : Same H1 (upd H1 p (.lst [V.int t])) := Same.new np
          refine ⟨ta3, p, _, _, rfl, rfl, sa _ _ f3, upd_same, ?_, fun p2 np2 => ?_⟩
          · rw [List.length_map]
            exact big (by show ts.length + 1 ≤ 1000; omega)
          have sb : Same H1 (upd (upd H1 p (.lst [V.int t])) p2 (.lst (ts.map V.int ++ [V.int t]))) := sa.put (sa.free np2)
          have hp2 : upd (upd H1 p (.lst [V.int t])) p2 (.lst (ts.map V.int ++ [V.int t])) p2 = some (.lst ((ts ++ [t]).map V.int)) := by rw [upd_same, List.map_append]; rfl
          generalize upd (upd H1 p (.lst [V.int t])) p2 (.lst (ts.map V.int ++ [V.int t])) = H7 at sb hp2
          refine ⟨p2, ts ++ [t], rfl, SqL.of hp2, by rw [List.length_append, List.length_singleton]; omega, fun r ns' nr hp hs => ?_⟩
          have htt := teeth_iff.mp (teeth_snoc gx.2 hr5 hnt)
          have hc := canon_of hp hs htt.2.1 htt.2.2
          subst hc
          obtain ⟨kvs8, hm8, hl8', s8, k8⟩ := put H1 _ r _ s1 km (sb.put (sb.free nr)) upd_same (sb.free nr)
          exact ⟨_, rfl, _, rfl, m, _, rfl, DPut.k (k := Sum.inr x) hm8 hl8', rfl, s8, by rw [if_pos (.inr (.inr rfl))]; exact k8⟩
        · exact absurd h (by decide)
      · rw [dec_no h0]
        refine iteF ⟨rfl, s1, ?_⟩
        by_cases h1 : d = 0 ∨ d = 1
        · rw [if_pos (by omega)]; rw [if_pos h1] at km; exact km
        · rw [if_neg (by omega)]; rw [if_neg h1] at km; exact km
    clear s1 km
    rintro σ H1 ⟨rfl, s1, km⟩
    -- 3
    refine ⟨fun σ Hx => σ = [some (.ref z), some (.int d), some (.str x), some mv, some (.ref m)] ∧ Same H Hx ∧ Kept L Hx m cs', ?_, ?_⟩
    · refine ⟨_, rfl, rfl, _, rfl, ?_⟩
      by_cases h0 : d = 3
      · subst h0
        rw [dec_yes]
        refine iteT ?_
        rw [if_neg (by decide)] at km
        rcases hd with ⟨h, _⟩ | ⟨h, _⟩ | ⟨h, _⟩ | ⟨_, t, rfl, e⟩
        · exact absurd h (by decide)
        · exact absurd h (by decide)
        · exact absurd h (by decide)
        · obtain ⟨ts, hgx, ht0, rfl⟩ := off_okG e.symm
          have gx := hg.ok _ (get_mem hgx)
          have hl8 : ts.length ≤ 8 := gt_len gx.2
          obtain ⟨kvs3, hz3, kr3⟩ := kz.same s1
          rcases kr3.val (x := x) with ⟨f1, _⟩ | ⟨ts', ta3, f1, f2, f3, f4⟩
          · rw [hgx] at f1; cases f1
          rw [hgx] at f1
          cases f1
          have dg3 : DGet H1 z (kV (Sum.inr x)) (some (.ref ta3)) := by rw [← f2]; exact DGet.k hz3
          refine ⟨_, rfl, _, rfl, z, _, rfl, dg3, ta3, rfl, ⟨_, SqL.of f3⟩, fun r nr => ?_⟩
          refine comp_s (capv := [some (.int t)]) (by rfl) (gives_list K ta3 (ts.map V.int)) (by rw [List.length_map]; exact big (by omega)) nr (fun H' s' => SqL.of (s' _ _ f3)) (neI t) (fun v => v) ?_ ?_ ?_
          · intro v hv H' R s' h
            obtain ⟨u, hu', rfl⟩ := List.mem_map.mp hv
            refine ⟨_, rfl, _, rfl, rfl, _, rfl, ?_⟩
            have e : (!decide (V.int u = V.int t)) = neI t (V.int u) := by
              show _ = decide (u ≠ t)
              rw [dec_ii, decide_not]
            rw [e]
            exact h H' (Same.refl _)
          · intro v hv hp H' R s' h
            exact ⟨_, rfl, h H' (Same.refl _)⟩
          intro H8 sc hr8
          rw [filter_ne] at hr8
          obtain ⟨kvs8, hm8, hl8', s8, k8⟩ := put H1 H8 r _ s1 km sc hr8 nr
          exact ⟨_, rfl, _, rfl, m, _, rfl, DPut.k (k := Sum.inr x) hm8 hl8', rfl, s8, k8⟩
      · rw [dec_no h0]
        refine iteF ⟨rfl, s1, ?_⟩
        rw [if_pos] at km
        · exact km
        · rcases hd with ⟨h, _⟩ | ⟨h, _⟩ | ⟨h, _⟩ | ⟨h, _⟩ <;> omega
    rintro σ H5 ⟨rfl, s5, k5⟩
    exact ⟨_, rfl, q H5 m s5 nm k5⟩
theorem gt_not {ks : List (Str × List Int)} (nd : (ks.map (·.1)).Nodup) {i : Nat} {k : Str × List Int} (h : ks[i]? = some k) : cGet (ks.take i) k.1 = none := by
  rw [get_none]
  intro hm
  obtain ⟨c, hc, e⟩ := List.mem_map.mp hm
  obtain ⟨j, hj, ej⟩ := List.getElem_of_mem hc
  have hi := (List.getElem?_eq_some_iff.mp h).1
  have hj' : j < i := by
    have := hj
    rw [List.length_take] at this
    omega
  have e1 : (ks.map (·.1))[j]? = some k.1 := by
    rw [List.getElem?_map, List.getElem?_eq_getElem (by omega)]
    rw [List.getElem_take] at ej
    rw [ej]
    exact congrArg some e
  have e2 : (ks.map (·.1))[i]? = some k.1 := by rw [List.getElem?_map, h]; rfl
  have := (List.getElem?_inj (by rw [List.length_map]; omega) nd).mp (e1.trans e2.symm)
  omega
def sp_mkbook (C : Addr) : Sp := fun vs H Q _ => ∃ (a : Addr) (ws : List V) (ks : List (Str × List Int)), vs = [.ref a] ∧ H a = some (.lst ws) ∧ Drawn (fun _ => True) H ws ks ∧ ks.length ≤ 8 ∧
  ∀ b l G past H', Same H H' → H b = none → H l = none → (∀ x, G x → H x = none) → Bk C G H' b l ks past → past = (List.range ks.length).map (fun j => ks.take j) → Q (.ref b) H'
theorem sc_book : FnScope ["_law_kinds", "_law_book_here", "_law_word", "_law_teeth"] ["_law_kinds"] (defScope s_book) := ⟨rfl, rfl, rfl, by decide +kernel, rfl, by decide +kernel, by decide +kernel⟩
theorem ok_mkbook {ea : Nat → Addr} {C : Addr} (D : DefAt K mg "_law_book" s_book) (T : Bn mg) (BA : BookAt K C) (C_Book : Maker P w K mg base "Book" C CX0 1 ["self"] (sp_init C)) (M_put : Method P w K mg base C "put" (CX1 P w) 3 ["self", "name", "teeth"] (sp_put (K := K) ea C)) : Callee P w K mg base "_law_book" 4 ["_law_kinds"] (sp_mkbook C) := by
  refine D.callee sc_book (fun _ _ _ _ _ _ us hl => match us, hl with | [_], _ => rfl) (fun vs H Q E h => ?_) (fun f cdv A outer s H vs Q E hr h => ?_)
  · obtain ⟨a, ws, ks, rfl, _⟩ := h
    rfl
  · obtain ⟨a, ws, ks, rfl, ha, dr, hk8, q⟩ := h
    have S := sc_book
    have hu := hu_of hr
    have B_cls := BA.cls
    have hlen := dr.rows.length
    refine ⟨_, pss_cons (ps_set (i := 1) S.nd rfl (Or.inl rfl) (pe_mk0 C_Book (hr.mono (by decide)) (by first | exact pass0 | exact pass_try | exact pass1 | exact pass_E0) rfl))
    (pss_cons (ps_for PassesOwn.never rfl (pi_list (pv 0)) (pg_lst rfl (pgs_cons (pg_name (i := 2) S.nd rfl (Or.inl rfl)) (pgs_cons (pg_name (i := 3) S.nd rfl (Or.inl rfl)) (pgs_nil))))
      (pss_one (ps_expr (pe_mt (pv 1) B_cls M_put (hr.mono (by decide)) (by first | exact pass0 | exact pass_try | exact pass1 | exact pass_E0) (pa_cons (pv 2) (pa_cons (pe_callTy call_list_of rfl T.n_list boot_list (pa_cons (pv 3) pa_nil)) pa_nil))))))
    (pss_one (ps_ret (pv 1)))), ?_⟩
    refine fun b dx nb ndx ndb => ⟨b, dx, rfl, upd_same, fun H1 l d m nl nd B => ⟨rfl, ?_⟩⟩
    have hlb : l ≠ b := fun z => by rw [z, upd_same] at nl; cases nl
    have nl0 : H l = none := by
      rw [upd_ne hlb] at nl
      by_cases z : l = dx
      · rw [z]; exact ndx
      · rw [upd_ne z] at nl; exact nl
    have hdb : d ≠ b := fun z => by rw [z, upd_same] at nd; cases nd
    have nd0 : H d = none := by
      rw [upd_ne hdb] at nd
      by_cases z : d = dx
      · rw [z]; exact ndx
      · rw [upd_ne z] at nd; exact nd
    have s1 : Same H H1 := fun x o e => m.keep x o (by rw [upd_ne (ne_of_none e nb), upd_ne (ne_of_none e ndx)]; exact e) (ne_of_none e nb) (ne_of_none e nb)
    refine ⟨_, rfl, _, rfl, ⟨_, SqL.of (s1 _ _ ha)⟩, ?_⟩
    refine for_g (gives_list K a ws) (fun i σ H2 => Same H H2 ∧ ∃ G past x2 x3, σ = [some (.ref a), some (.ref b), x2, x3] ∧ Bk C G H2 b l (ks.take i) past ∧ past = (List.range i).map (fun j => ks.take j) ∧ ∀ x, G x → H x = none) ⟨s1, _, [], _, _, rfl, B, rfl, fun x g => by rw [show x = d from g]; exact nd0⟩ (fun i σ H2 _ h => SqL.of (h.1 _ _ ha)) ?_ ?_
    · rintro i x σ H2 hx ⟨s2, G, past, x2, x3, rfl, B2, hpe, hG⟩
      have hp : past.length = i := by rw [hpe, List.length_map, List.length_range]
      obtain ⟨k, qa, t, hk, rfl, hq, ht⟩ := (dr.same s2).rows.get hx
      have hi : i < ks.length := (List.getElem?_eq_some_iff.mp hk).1
      obtain ⟨hkn, hkg⟩ := dr.good k (List.mem_of_getElem? hk)
      obtain ⟨dx2, d2, hb2, _⟩ := id B2.ins
      refine ⟨qa, _, rfl, SqL.of hq, rfl, _, _, rfl, _, _, rfl, rfl, ?_⟩
      refine ⟨_, rfl, b, dx2, _, rfl, hb2, rfl, _, rfl, _, rfl, t, _, rfl, .inl (SqL.of ht), fun p np => ?_⟩
      have s3 : Same H2 (upd H2 p (.lst (k.2.map V.int))) := Same.new np
      refine ⟨b, l, G, _, past, k.1, p, k.2, rfl, B2.same s3, SqL.of upd_same, ?_, ?_, ?_⟩
      · exact big (by have := name_len hkn; omega)
      · have := gt_len hkg; omega
      have hlt : (ks.take i).length = i := by rw [List.length_take]; omega
      have e : putD (ks.take i) past k.1 k.2 = .ok (ks.take (i + 1)) := by
        unfold putD full
        rw [if_neg (by rw [hkn]; decide), if_neg (by rw [gt_teeth hkg]; decide), gt_not dr.nd hk, if_neg (by simp), if_neg (by omega), if_neg (by omega), put_new (gt_not dr.nd hk), gt_eq hkg, take_snoc hk]
      rw [e]
      intro H4 G4 m4 B4
      refine ⟨fun x o e' => m4.keep x o (s3 _ _ (s2 _ _ e')) (ne_of_none e' nb) (ne_of_none e' nl0), G4, _, _, _, rfl, B4, by rw [hpe, List.range_succ, List.map_append]; rfl, fun x g => ?_⟩
      rcases m4.new x g with g | g
      · exact hG x g
      · exact (s2.trans s3).free g
    · rintro σ H2 ⟨s2, G, past, x2, x3, rfl, B2, hp, hG⟩
      rw [List.take_of_length_le (by omega)] at B2
      exact ⟨_, rfl, q b l G past H2 s2 nb nl0 hG B2 (by rw [hp, hlen])⟩
--CUT--
def sp_at (K : PySem.W.Frag) : Sp := fun vs H Q _ => ∃ (a : Addr) (ns : List Int) (k : Int), vs = [.ref a, .int k] ∧ SqL K H a (ns.map V.int) ∧ 0 ≤ k ∧ Q (.int (ns.getD k.toNat 0)) H
theorem sc_at : FnScope ["_law_script", "_law_k"] ["_law_script", "_law_k"] (defScope s_at) := ⟨rfl, rfl, rfl, by decide +kernel, rfl, by decide +kernel, by decide +kernel⟩
theorem ok_at (D : DefAt K mg "_law_at" s_at) (T : Bn mg) : Callee P w K mg base "_law_at" 1 ["_law_script", "_law_k"] (sp_at K) := by
  refine D.callee sc_at (fun _ _ _ _ _ _ us hl => match us, hl with | [_, _], _ => rfl) (fun vs H Q E h => ?_) (fun f cdv A outer s H vs Q E hr h => ?_)
  · obtain ⟨a, ns, k, rfl, _⟩ := h
    rfl
  · obtain ⟨a, ns, k, rfl, hS, h0, q⟩ := h
    have S := sc_at
    refine ⟨_, pss_cons (ps_if (pt_cmpR op_lt (pv 1) (pe_callB call_len_seq rfl T.n_len PySem.boot_len (pa_cons (pv 0) pa_nil)) (nomark _))
      (pss_one (ps_ret (pe_ix ix_list (pv 0) (pv 1) (fun _ _ => rfl))))
      (pss_nil))
    (pss_one (ps_ret (pe_int))), ?_⟩
    refine ⟨_, rfl, _, rfl, _, _, rfl, .inl hS, _, _, rfl, rfl, _, rfl, ?_⟩
    refine ite2 (fun hc => ?_) (fun hc => ?_)
    · have hc := of_decide_eq_true hc
      rw [List.length_map] at hc
      exact ⟨_, rfl, _, rfl, _, _, _, _, rfl, rfl, hS, at_get h0 hc, q⟩
    · have hc : ¬ k < (ns.length : Int) := fun z => hc (decide_eq_true (by rw [List.length_map]; exact z))
      rw [getD_big hc] at q
      exact q
def sp_whole : Sp := fun vs H Q _ => ∃ (i : Int), vs = [.int i] ∧ Q (.bl true) H
theorem sc_whole : FnScope ["_law_found"] ["_law_found"] (defScope s_whole) := ⟨rfl, rfl, rfl, by decide +kernel, rfl, by decide +kernel, by decide +kernel⟩
theorem ok_whole (D : DefAt K mg "_law_whole" s_whole) (T : Bn mg) : Callee P w K mg base "_law_whole" 1 ["_law_found"] sp_whole := by
  refine D.callee sc_whole (fun _ _ _ _ _ _ us hl => match us, hl with | [_], _ => rfl) (fun vs H Q E h => ?_) (fun f cdv A outer s H vs Q E hr h => ?_)
  · obtain ⟨i, rfl, _⟩ := h
    rfl
  · obtain ⟨i, rfl, q⟩ := h
    have S := sc_whole
    refine ⟨_, pss_one (ps_ret (pe_and (pe_callB (call_isT "int") rfl T.n_isinstance boot_isinstance (pa_cons (pv 0) (pa_cons (pe_bltn (v := .ty "int") rfl T.n_int boot_int rfl) pa_nil))) (pe_one (pe_not (pe_callB (call_isT "bool") rfl T.n_isinstance boot_isinstance (pa_cons (pv 0) (pa_cons (pe_bltn (v := .ty "bool") rfl T.n_bool boot_bool rfl) pa_nil))))))), ?_⟩
    refine ⟨_, rfl, _, _, true, rfl, .int i, rfl, _, rfl, ?_⟩
    refine iteT ?_
    exact ⟨_, rfl, _, _, false, rfl, .int i, rfl, _, rfl, q⟩
theorem in_abc (c : Nat) : (!(Builtin.Str.occurrences (Str.ofString "abcdefghijklmnopqrstuvwxyz") ⟨#[c]⟩ 0 (Str.ofString "abcdefghijklmnopqrstuvwxyz").length 1).isEmpty) = small c := by
  rw [PySem.StrLaws.found_one]
  have e : (Str.ofString "abcdefghijklmnopqrstuvwxyz").cps.toList = (List.range 26).map (97 + ·) := by decide +kernel
  rw [e]
  rw [Bool.eq_iff_iff]
  unfold small
  simp only [decide_eq_true_eq, List.mem_map, List.mem_range, Bool.and_eq_true]
  constructor
  · rintro ⟨i, hi, rfl⟩; omega
  · rintro ⟨h1, h2⟩; exact ⟨c - 97, by omega, by omega⟩
def smallV (v : V) : Bool := match v with
  | .str y => small (y.cps.getD 0 0)
  | _ => false
def sp_isname : Sp := fun vs H Q _ => ∃ x : Str, vs = [.str x] ∧ x.length ≤ 1000 ∧ ∀ H', Same H H' → Q (.bl (isName x)) H'
theorem sc_isname : FnScope ["_law_word", "_law_small"] ["_law_word"] (defScope s_isname) := ⟨rfl, rfl, rfl, by decide +kernel, rfl, by decide +kernel, by decide +kernel⟩
theorem ok_isname (D : DefAt K mg "_law_isname" s_isname) (T : Bn mg) : Callee P w K mg base "_law_isname" 1 ["_law_word"] sp_isname := by
  refine D.callee sc_isname (fun _ _ _ _ _ _ us hl => match us, hl with | [_], _ => rfl) (fun vs H Q E h => ?_) (fun f cdv A outer s H vs Q E hr h => ?_)
  · obtain ⟨x, rfl, _⟩ := h
    rfl
  · obtain ⟨x, rfl, hx, q⟩ := h
    have S := sc_isname
    have hxS : x.length ≤ sizeLine := big hx
    refine ⟨_, pss_cons (ps_setC (i := 1) S.nd rfl (Or.inl rfl) (own := ["_law_one"]) (caps := []) rfl ⟨rfl, rfl, rfl, rfl, trivial⟩ (pi_str (pv 0)) (fun _ _ _ _ _ _ => pg_name (i := 0) (nd_comp (by decide +kernel)) rfl (Or.inl rfl)) (fun _ _ _ _ _ _ => pts_one (pt_cmpR op_in_str (pv 0) (pe_str) (by with_unfolding_all rfl))) (fun _ _ _ _ _ _ => pv 0))
    (pss_one (ps_ret (pe_and (pe_cmpR op_le (pe_int) (pe_callB call_len_str rfl T.n_len PySem.boot_len (pa_cons (pv 0) pa_nil)) (nomark _)) (pe_and (pe_cmpR op_le (pe_callB call_len_str rfl T.n_len PySem.boot_len (pa_cons (pv 0) pa_nil)) (pe_int) (nomark _)) (pe_one (pe_cmpR op_eq (pe_callB call_len_seq rfl T.n_len PySem.boot_len (pa_cons (pv 1) pa_nil)) (pe_callB call_len_str rfl T.n_len PySem.boot_len (pa_cons (pv 0) pa_nil)) (nomark _))))))), ?_⟩
    refine ⟨_, rfl, x, rfl, fun Dc hD => ?_⟩
    refine comp_s (capv := []) (by rfl) (gives_str x) (by rw [List.length_map, txt_len]; exact hxS) hD (fun _ _ => trivial) smallV (fun v => v) ?_ ?_ ?_
    · intro v hv H' R s' h
      obtain ⟨c, hc, rfl⟩ := List.mem_map.mp hv
      refine ⟨_, rfl, _, _, rfl, rfl, _, rfl, ?_⟩
      rw [in_abc]
      exact h H' (Same.refl _)
    · intro v hv hp H' R s' h
      exact ⟨_, rfl, h H' (Same.refl _)⟩
    intro H1 s1 e1
    have el : ((((x.cps.toList.map sgn).filter smallV).map fun v => v).length : Int) = ((x.cps.toList.filter small).length : Int) := by
      rw [List.map_id', List.filter_map, List.length_map]
      rfl
    have qq := q H1 s1
    rw [← name_filter] at qq
    refine ⟨_, rfl, _, rfl, hxS, _, _, rfl, rfl, _, rfl, ?_⟩
    cases h1 : decide ((1 : Int) ≤ (x.length : Int)) with
    | false => rw [h1] at qq; exact iteF qq
    | true =>
      rw [h1] at qq
      refine iteT ?_
      refine ⟨_, rfl, _, rfl, hxS, _, _, rfl, rfl, _, rfl, ?_⟩
      cases h2 : decide ((x.length : Int) ≤ 6) with
      | false => rw [h2] at qq; exact iteF qq
      | true =>
        rw [h2] at qq
        refine iteT ?_
        refine ⟨_, rfl, _, _, rfl, .inl (SqL.of e1), _, rfl, _, rfl, hxS, rfl, ?_⟩
        rw [dec_ii, el]
        exact qq
def outV (v : V) : Bool := match v with
  | .int t => !inR t
  | _ => false
def sp_isteeth (K : PySem.W.Frag) : Sp := fun vs H Q _ => ∃ (a : Addr) (ts : List Int), vs = [.ref a] ∧ SqL K H a (ts.map V.int) ∧ ts.length ≤ 1000 ∧ ∀ H', Same H H' → Q (.bl (areTeeth ts)) H'
theorem sc_isteeth : FnScope ["_law_teeth"] ["_law_teeth"] (defScope s_isteeth) := ⟨rfl, rfl, rfl, by decide +kernel, rfl, by decide +kernel, by decide +kernel⟩
theorem ok_isteeth (D : DefAt K mg "_law_isteeth" s_isteeth) (T : Bn mg) : Callee P w K mg base "_law_isteeth" 1 ["_law_teeth"] (sp_isteeth K) := by
  refine D.callee sc_isteeth (fun _ _ _ _ _ _ us hl => match us, hl with | [_], _ => rfl) (fun vs H Q E h => ?_) (fun f cdv A outer s H vs Q E hr h => ?_)
  · obtain ⟨a, ts, rfl, _⟩ := h
    rfl
  · obtain ⟨a, ts, rfl, ha, hl, q⟩ := h
    have S := sc_isteeth
    refine ⟨_, pss_cons (ps_if (pt_cmpR op_gt (pe_callB call_len_seq rfl T.n_len PySem.boot_len (pa_cons (pe_comp (own := ["_law_t"]) (caps := []) rfl ⟨rfl, rfl, rfl, rfl, trivial⟩ (pi_list (pv 0)) (fun _ _ _ _ _ _ => pg_name (i := 0) (nd_comp (by decide +kernel)) rfl (Or.inl rfl)) (fun _ _ _ _ _ _ => pts_one (PW.pt (pw_or (pt_cmpR op_lt (pv 0) (pe_int) (nomark _)) (pw_or1 (pt_cmpR op_gt (pv 0) (pe_int) (nomark _)))))) (fun _ _ _ _ _ _ => pv 0)) pa_nil)) (pe_int) (nomark _))
      (pss_one (ps_ret (pe_bl)))
      (pss_nil))
    (pss_one (ps_ret (pe_and (pe_cmpR op_eq (pe_bm PySem.F.plainAttrs_list PySem.F.slot_list_count PySem.F.type_list_count mt_count (pv 0) (pa_cons (pe_int) pa_nil)) (pe_int) (nomark _)) (pe_one (pe_callB (call_all rfl) rfl T.n_all boot_all (pa_cons (pe_comp (own := ["_law_t"]) (caps := [(0, "_law_teeth")]) rfl ⟨rfl, rfl, rfl, rfl, ⟨⟨rfl, rfl, .inl rfl⟩, trivial⟩⟩ (pi_range1 rfl T.n_range (pa_cons (pe_int) pa_nil)) (fun _ _ _ _ _ _ => pg_name (i := 0) (nd_comp (by decide +kernel)) rfl (Or.inl rfl)) (fun _ _ _ _ _ _ => pts_nil) (fun _ _ _ _ _ _ => pe_cmpR op_le (pe_bm' K rfl PySem.F.plainAttrs_list PySem.F.slot_list_count PySem.F.type_list_count (mt_count' K rfl) (pv 1) (pa_cons (pv 0) pa_nil)) (pe_int) (nomark _))) pa_nil)))))), ?_⟩
    refine ⟨_, rfl, a, rfl, ⟨_, ha⟩, fun Dc hD => ?_⟩
    refine comp_s (capv := []) (by rfl) (gives_list K a (ts.map V.int)) (by rw [List.length_map]; exact big hl) hD (fun H' s' => s'.seq ha) outV (fun v => v) ?_ ?_ ?_
    · intro v hv H' R s' h
      obtain ⟨t, ht, rfl⟩ := List.mem_map.mp hv
      have h := h H' (Same.refl _)
      refine ⟨_, rfl, _, _, rfl, rfl, _, rfl, ?_⟩
      by_cases h0 : t < 0
      · have e : outV (.int t) = true := by
          show (!inR t) = true
          have : inR t = false := by rw [Bool.eq_false_iff]; exact fun z => by have := inR_iff.mp z; omega
          rw [this]; rfl
        rw [e] at h
        rw [decide_eq_true h0]
        exact iteT h
      · rw [decide_eq_false h0]
        refine iteF ⟨_, rfl, _, _, rfl, rfl, _, rfl, ?_⟩
        have e : outV (.int t) = decide (7 < t) := by
          show (!inR t) = _
          rw [Bool.eq_iff_iff, Bool.not_eq_true', decide_eq_true_eq, Bool.eq_false_iff, ne_eq, inR_iff]
          omega
        rw [e] at h
        exact h
    · intro v hv hp H' R s' h
      exact ⟨_, rfl, h H' (Same.refl _)⟩
    intro H1 s1 e1
    have el : ((((ts.map V.int).filter outV).map fun v => v).length : Int) = ((ts.filter fun t => !inR t).length : Int) := by
      rw [List.map_id', List.filter_map, List.length_map]
      rfl
    refine ⟨_, _, rfl, .inl (SqL.of e1), _, _, rfl, rfl, _, rfl, ?_⟩
    rw [el]
    have ha1 := s1.seq ha
    cases hc : decide ((0 : Int) < ((ts.filter fun t => !inR t).length : Int)) with
    | true =>
      have qq := q H1 s1
      rw [← teeth_count, hc] at qq
      exact iteT qq
    | false =>
      refine iteF ?_
      refine ⟨_, rfl, .inl ⟨rfl, _, ha1⟩, a, ts, 0, rfl, rfl, ha1, rfl, _, rfl, ?_⟩
      rw [dec_ii]
      cases h1 : decide (((ts.count 0 : Nat) : Int) = 1) with
      | false =>
        have qq := q H1 s1
        rw [← teeth_count, hc, h1] at qq
        exact iteF qq
      | true =>
        refine iteT ?_
        refine ⟨_, rfl, by decide, by decide, fun D2 hD2 => ?_⟩
        refine comp_s (capv := [some (.ref a)]) (by rfl) (gives_range 0 (8 : Int).toNat) (bigr rfl) hD2 (fun _ _ => trivial) (fun _ => true) (fun v => match v with | .int t => .bl (decide (((ts.count t : Nat) : Int) ≤ 1)) | _ => .non) ?_ ?_ ?_
        · exact fun v hv H' R s' h => h H' (Same.refl _)
        · intro v hv _ H' R s' h
          obtain ⟨t, ht, rfl⟩ := List.mem_map.mp hv
          have ha' := s'.seq ha1
          exact ⟨_, rfl, .inl ⟨rfl, _, ha'⟩, _, rfl, a, ts, _, rfl, rfl, ha', _, _, rfl, rfl, h H' (Same.refl _)⟩
        intro H2 s2 e2
        refine ⟨D2, (List.range 8).map fun t => decide (((ts.count ((t : Nat) : Int) : Nat) : Int) ≤ 1), rfl, SqL.of ?_, ?_⟩
        · rw [e2]
          congr 2
        · have qq := q H2 (s1.trans s2)
          rw [← teeth_count, hc, h1] at qq
          rw [List.all_map]
          exact qq
def fl (l : List (Bool × Str)) : List Str := (l.filter (·.1)).map (·.2)
theorem fl_snoc (l : List (Bool × Str)) (b : Bool) (s : Str) : fl (l ++ [(b, s)]) = fl l ++ (if b = true then [s] else []) := by
  unfold fl
  rw [List.filter_append, List.map_append]
  cases b <;> rfl
def dueN (r : Except Nat Combs) : Str := match r with
  | .ok _ => Str.ofString ""
  | .error j => errName j
/-- the refusals that the law reckons with, in its order -/
def conds (d : Int) (cs : Combs) (n : Int) (x : Str) (tt : Bool) (t : Int) (ts : List Int) : List (Bool × Str) :=
  [(decide (d = 0) && !isName x, Str.ofString "BadName"), (decide (d = 0) && !tt, Str.ofString "BadTeeth"), (decide (d = 0) && (cGet cs x).isSome, Str.ofString "NameTaken"), (decide (0 < d) && !(cGet cs x).isSome, Str.ofString "NoComb"),
   (decide (1 < d) && (decide (t < 0) || decide (7 < t)), Str.ofString "BadTooth"), (decide (d = 3) && decide (t = 0), Str.ofString "FirstTooth"), (decide (d = 2) && decide (t ∈ ts), Str.ofString "ToothThere"), (decide (d = 3) && !decide (t ∈ ts), Str.ofString "ToothMissing"), (decide (n = 300), Str.ofString "DeedsFull")]
theorem inR_or (t : Int) : (decide (t < 0) || decide (7 < t)) = !inR t := by
  rw [Bool.eq_iff_iff, Bool.or_eq_true, Bool.not_eq_true', Bool.eq_false_iff, ne_eq, inR_iff, decide_eq_true_eq, decide_eq_true_eq]
  omega
theorem due_first {K : PySem.W.Frag} {H : Hp} {d : Int} {x : Str} {mv : V} {cs : Combs} {past : List Combs} {r : Except Nat Combs} (h : DoOk K H d x mv cs past r) (h8 : cs.length < 8) (hf : past.length ≤ 300) (tt : Bool) (t : Int) (ts : List Int)
    (h0 : d = 0 → ∃ us, r = putD cs past x us ∧ tt = areTeeth us) (h1 : ∀ t', mv = .int t' → t = t') (hts : ts = (cGet cs x).getD []) :
    (fl (conds d cs (past.length : Int) x tt t ts) ++ [Str.ofString ""])[0]? = some (dueN r) := by
  have e300 : decide ((past.length : Int) = 300) = decide (300 ≤ past.length) := by rw [decide_eq_decide]; omega
  rcases h with ⟨rfl, a, us, rfl, ha, htl, rfl⟩ | ⟨rfl, ⟨t', rfl⟩, rfl⟩ | ⟨rfl, t', rfl, rfl⟩ | ⟨rfl, t', rfl, rfl⟩
  · obtain ⟨us', e', ht⟩ := h0 rfl
    rw [e']
    subst ht
    unfold conds fl putD full
    rw [e300]
    cases isName x <;> cases areTeeth us' <;> cases (cGet cs x).isSome <;> by_cases hh : 300 ≤ past.length <;> simp [hh, dueN, show ¬ 8 ≤ cs.length by omega, errName, errNames]
  · unfold conds fl dropD full
    rw [e300]
    cases (cGet cs x).isSome <;> by_cases hh : 300 ≤ past.length <;> simp [hh, dueN, errName, errNames]
  · have ht := h1 t' rfl
    subst ht
    unfold conds fl addD full
    rw [e300, inR_or]
    cases e : cGet cs x with
    | none => by_cases hh : 300 ≤ past.length <;> cases inR t <;> simp [hh, dueN, errName, errNames]
    | some us =>
      rw [e] at hts
      have hts : ts = us := hts
      subst hts
      by_cases hh : 300 ≤ past.length <;> cases inR t <;> by_cases hm : t ∈ ts <;> simp [hh, hm, dueN, errName, errNames]
  · have ht := h1 t' rfl
    subst ht
    unfold conds fl offD full
    rw [e300, inR_or]
    cases e : cGet cs x with
    | none => by_cases hh : 300 ≤ past.length <;> cases inR t <;> by_cases hz : t = 0 <;> simp [hh, hz, dueN, errName, errNames]
    | some us =>
      rw [e] at hts
      have hts : ts = us := hts
      subst hts
      by_cases hh : 300 ≤ past.length <;> cases inR t <;> by_cases hz : t = 0 <;> by_cases hm : t ∈ ts <;> simp [hh, hz, hm, dueN, errName, errNames]
def sp_due8 (K : PySem.W.Frag) : Sp := fun vs H Q _ => ∃ z L cs past d x mv r, vs = [.ref z, .int (past.length : Int), .int d, .str x, mv] ∧ Kept L H z cs ∧ Good cs ∧ cs.length < 8 ∧ past.length ≤ 300 ∧ x.length ≤ 1000 ∧ DoOk K H d x mv cs past r ∧ ∀ H', Same H H' → Q (.str (dueN r)) H'
theorem fl_no {b : Bool} {s : Str} {l : List (Bool × Str)} (h : b = false) : fl (l ++ [(b, s)]) = fl l := by rw [fl_snoc, h]; simp
theorem fl_yes {b : Bool} {s : Str} {l : List (Bool × Str)} (h : b = true) : (fl (l ++ [(b, s)])).map V.str = (fl l).map V.str ++ [V.str s] := by rw [fl_snoc, h, if_pos rfl, List.map_append]; rfl
theorem fl_len (l : List (Bool × Str)) : (fl l).length ≤ l.length := by
  unfold fl
  rw [List.length_map]
  exact List.length_filter_le _ _
theorem tk {l : List (Bool × Str)} {i : Nat} (h : i < 20) : (l.take i).length < 20 := Nat.lt_of_le_of_lt (List.length_take_le _ _) h
structure Fd (H : Hp) (p : Addr) (l : List (Bool × Str)) (Hx : Hp) : Prop where
  s : Same H Hx
  e : Hx p = some (.lst ((fl l).map V.str))
  n : H p = none
  k : l.length ≤ 20
theorem Fd.same {H Hx H' : Hp} {p : Addr} {l : List (Bool × Str)} (f : Fd H p l Hx) (s' : Same Hx H') : Fd H p l H' := ⟨f.s.trans s', s' _ _ f.e, f.n, f.k⟩
theorem Fd.no {H Hx : Hp} {p : Addr} {l : List (Bool × Str)} {b : Bool} {s : Str} (f : Fd H p l Hx) (h : b = false) (hl : l.length < 20) : Fd H p (l ++ [(b, s)]) Hx := ⟨f.s, by rw [fl_no h]; exact f.e, f.n, by rw [List.length_append, List.length_singleton]; omega⟩
theorem Fd.yes {H Hx : Hp} {p : Addr} {l : List (Bool × Str)} {b : Bool} {s : Str} (f : Fd H p l Hx) (h : b = true) (hl : l.length < 20) : Fd H p (l ++ [(b, s)]) (upd Hx p (.lst ((fl l).map V.str ++ [V.str s]))) := ⟨f.s.put f.n, by rw [upd_same, fl_yes h], f.n, by rw [List.length_append, List.length_singleton]; omega⟩
theorem Fd.small {H Hx : Hp} {p : Addr} {l : List (Bool × Str)} (f : Fd H p l Hx) : ((fl l).map V.str).length < sizeLine := by
  rw [List.length_map]
  have := fl_len l
  have := f.k
  exact Nat.lt_of_lt_of_le (by omega : (fl l).length < 1000) sizeBig
theorem sc_due : FnScope ["_law_kept", "_law_stands", "_law_deed", "_law_word", "_law_more", "_law_found"] ["_law_kept", "_law_stands", "_law_deed", "_law_word", "_law_more"] (defScope s_due) := ⟨rfl, rfl, rfl, by decide +kernel, rfl, by decide +kernel, by decide +kernel⟩
theorem ok_due (D : DefAt K mg "_law_due" s_due) (T : Bn mg) (C_isname : Callee P w K mg base "_law_isname" 1 ["_law_word"] sp_isname) (C_isteeth : Callee P w K mg base "_law_isteeth" 1 ["_law_teeth"] (sp_isteeth K)) : Callee P w K mg base "_law_due" 2 ["_law_kept", "_law_stands", "_law_deed", "_law_word", "_law_more"] (sp_due8 K) := by
  refine D.callee sc_due (fun _ _ _ _ _ _ us hl => match us, hl with | [_, _, _, _, _], _ => rfl) (fun vs H Q E h => ?_) (fun f cdv A outer s H vs Q E hr h => ?_)
  · obtain ⟨z, L, cs, past, d, x, mv, r, rfl, _⟩ := h
    rfl
  · obtain ⟨z, L, cs, past, d, x, mv, r, rfl, kz, hg, h8, hf, hx, hd, q⟩ := h
    have S := sc_due
    have hu := hu_of hr
    obtain ⟨kvs, hz, kr⟩ := id kz
    -- the tooth and the teeth
    obtain ⟨tt, t, h0, h1⟩ : ∃ (tt : Bool) (t : Int), (d = 0 → ∃ (a : Addr) (us : List Int), mv = .ref a ∧ SqL K H a (us.map V.int) ∧ us.length ≤ 1000 ∧ r = putD cs past x us ∧ tt = areTeeth us) ∧ (0 < d → mv = .int t) := by
      rcases hd with ⟨rfl, a, us, e, ha, hl, hr'⟩ | ⟨rfl, ⟨t, e⟩, _⟩ | ⟨rfl, t, e, _⟩ | ⟨rfl, t, e, _⟩
      · exact ⟨areTeeth us, 0, fun _ => ⟨a, us, e, ha, hl, hr', rfl⟩, fun h => absurd h (by decide)⟩
      · exact ⟨true, t, fun h => absurd h (by decide), fun _ => e⟩
      · exact ⟨true, t, fun h => absurd h (by decide), fun _ => e⟩
      · exact ⟨true, t, fun h => absurd h (by decide), fun _ => e⟩
    have hdr : 0 ≤ d ∧ d ≤ 3 := by rcases hd with ⟨h, _⟩ | ⟨h, _⟩ | ⟨h, _⟩ | ⟨h, _⟩ <;> omega
    obtain ⟨ts, hts⟩ : ∃ ts, ts = (cGet cs x).getD [] := ⟨_, rfl⟩
    have fin : (fl (conds d cs (past.length : Int) x tt t ts) ++ [Str.ofString ""])[0]? = some (dueN r) := by
      refine due_first hd h8 hf tt t ts (fun e => ?_) (fun t' e => ?_) hts
      · obtain ⟨a', us', _, _, _, e5, e6⟩ := h0 e
        exact ⟨us', e5, e6⟩
      · by_cases hp : 0 < d
        · have := h1 hp
          rw [e] at this
          injection this with z
          exact z.symm
        · obtain ⟨a', us', e4, _⟩ := h0 (by omega)
          rw [e] at e4; cases e4
    refine ⟨_, pss_cons (ps_set (i := 5) S.nd rfl (Or.inl rfl) (pe_lst (pa_nil)))
    (pss_cut (ps_if (PW.pt (pw_and (pt_cmpR op_eq (pv 2) (pe_int) (nomark _)) (pw_and1 (pt_not (pt_val (pe_fn C_isname (hr.mono (by decide)) rfl (pa_cons (pv 3) pa_nil)))))))
      (pss_one (ps_expr (pe_bm PySem.F.plainAttrs_list PySem.F.slot_list_append PySem.F.type_list_append mt_append (pv 5) (pa_cons (pe_str) pa_nil))))
      (pss_nil))
    (pss_cut (ps_if (PW.pt (pw_and (pt_cmpR op_eq (pv 2) (pe_int) (nomark _)) (pw_and1 (pt_not (pt_val (pe_fn C_isteeth (hr.mono (by decide)) rfl (pa_cons (pv 4) pa_nil)))))))
      (pss_one (ps_expr (pe_bm PySem.F.plainAttrs_list PySem.F.slot_list_append PySem.F.type_list_append mt_append (pv 5) (pa_cons (pe_str) pa_nil))))
      (pss_nil))
    (pss_cut (ps_if (PW.pt (pw_and (pt_cmpR op_eq (pv 2) (pe_int) (nomark _)) (pw_and1 (pt_cmp (pc_din hu (pv 3) (pv 0))))))
      (pss_one (ps_expr (pe_bm PySem.F.plainAttrs_list PySem.F.slot_list_append PySem.F.type_list_append mt_append (pv 5) (pa_cons (pe_str) pa_nil))))
      (pss_nil))
    (pss_cut (ps_if (PW.pt (pw_and (pt_cmpR op_gt (pv 2) (pe_int) (nomark _)) (pw_and1 (pt_cmp (pc_dnotin hu (pv 3) (pv 0))))))
      (pss_one (ps_expr (pe_bm PySem.F.plainAttrs_list PySem.F.slot_list_append PySem.F.type_list_append mt_append (pv 5) (pa_cons (pe_str) pa_nil))))
      (pss_nil))
    (pss_cut (ps_if (PW.pt (pw_and (pt_cmpR op_gt (pv 2) (pe_int) (nomark _)) (pw_and1 (PW.pt (pw_or (pt_cmpR op_lt (pv 4) (pe_int) (nomark _)) (pw_or1 (pt_cmpR op_gt (pv 4) (pe_int) (nomark _))))))))
      (pss_one (ps_expr (pe_bm PySem.F.plainAttrs_list PySem.F.slot_list_append PySem.F.type_list_append mt_append (pv 5) (pa_cons (pe_str) pa_nil))))
      (pss_nil))
    (pss_cut (ps_if (PW.pt (pw_and (pt_cmpR op_eq (pv 2) (pe_int) (nomark _)) (pw_and1 (pt_cmpR op_eq (pv 4) (pe_int) (nomark _)))))
      (pss_one (ps_expr (pe_bm PySem.F.plainAttrs_list PySem.F.slot_list_append PySem.F.type_list_append mt_append (pv 5) (pa_cons (pe_str) pa_nil))))
      (pss_nil))
    (pss_cut (ps_if (PW.pt (pw_and (pt_cmpR op_eq (pv 2) (pe_int) (nomark _)) (pw_and1 (pt_cmpR op_in_seq (pv 4) (pe_dget2 hu (pv 0) (pv 3) (pe_lst (pa_nil)) ⟨rfl, rfl, rfl, rfl⟩) (by with_unfolding_all rfl)))))
      (pss_one (ps_expr (pe_bm PySem.F.plainAttrs_list PySem.F.slot_list_append PySem.F.type_list_append mt_append (pv 5) (pa_cons (pe_str) pa_nil))))
      (pss_nil))
    (pss_cut (ps_if (PW.pt (pw_and (pt_cmpR op_eq (pv 2) (pe_int) (nomark _)) (pw_and1 (pt_cmpR op_notIn_seq (pv 4) (pe_dget2 hu (pv 0) (pv 3) (pe_lst (pa_nil)) ⟨rfl, rfl, rfl, rfl⟩) (by with_unfolding_all rfl)))))
      (pss_one (ps_expr (pe_bm PySem.F.plainAttrs_list PySem.F.slot_list_append PySem.F.type_list_append mt_append (pv 5) (pa_cons (pe_str) pa_nil))))
      (pss_nil))
    (pss_cut (ps_if (pt_cmpR op_eq (pv 1) (pe_int) (nomark _))
      (pss_one (ps_expr (pe_bm PySem.F.plainAttrs_list PySem.F.slot_list_append PySem.F.type_list_append mt_append (pv 5) (pa_cons (pe_str) pa_nil))))
      (pss_nil))
    (pss_one (ps_ret (pe_ix ix_list (pe_op op_cat (pv 5) (pe_lst (pa_cons (pe_str) pa_nil))) (pe_int) (fun _ _ => rfl))))))))))))), ?_⟩
    refine ⟨bigr rfl, fun p np => ?_⟩
    have f0 : Fd H p [] (upd H p (.lst [])) := ⟨Same.new np, upd_same, np, by decide⟩
    generalize upd H p (.lst []) = H0 at f0
    have st : Prop := True
    -- 1
    refine ⟨fun σ Hx => σ = [some (.ref z), some (.int (past.length : Int)), some (.int d), some (.str x), some mv, some (.ref p)] ∧ Fd H p ((conds d cs (past.length : Int) x tt t ts).take 1) Hx, ?_, ?_⟩
    · refine ⟨_, rfl, rfl, _, rfl, ?_⟩
      by_cases h : d = 0
      · rw [show decide (V.int d = V.int 0) = true by rw [dec_ii]; exact decide_eq_true h]
        refine iteT ⟨_, rfl, x, rfl, hx, fun H1 s1 => ⟨_, rfl, ?_⟩⟩
        have f1 := f0.same s1
        cases hb : isName x with
        | false => exact iteT ⟨_, rfl, .inl ⟨rfl, _, SqL.of f1.e⟩, p, _, _, rfl, rfl, f1.e, f1.small, rfl, f1.yes (by rw [decide_eq_true h, hb]; rfl) (by decide)⟩
        | true => exact iteF ⟨rfl, f1.no (by rw [hb]; simp) (by decide)⟩
      · rw [dec_no h]
        exact iteF (iteF ⟨rfl, f0.no (by rw [decide_eq_false h]; rfl) (by decide)⟩)
    clear f0
    rintro σ H1 ⟨rfl, f1⟩
    -- 2
    refine ⟨fun σ Hx => σ = [some (.ref z), some (.int (past.length : Int)), some (.int d), some (.str x), some mv, some (.ref p)] ∧ Fd H p ((conds d cs (past.length : Int) x tt t ts).take 2) Hx, ?_, ?_⟩
    · refine ⟨_, rfl, rfl, _, rfl, ?_⟩
      by_cases h : d = 0
      · rw [show decide (V.int d = V.int 0) = true by rw [dec_ii]; exact decide_eq_true h]
        obtain ⟨a, us, e, ha, hl, _, ett⟩ := h0 h
        refine iteT ⟨_, rfl, a, us, ?_, f1.s.seq ha, hl, fun H2 s2 => ⟨_, rfl, ?_⟩⟩
        · rw [e]; rfl
        have f2 := f1.same s2
        rw [← ett]
        cases hb : tt with
        | false => exact iteT ⟨_, rfl, .inl ⟨rfl, _, SqL.of f2.e⟩, p, _, _, rfl, rfl, f2.e, f2.small, rfl, f2.yes (by simp [h, hb]) (tk (by decide))⟩
        | true => exact iteF ⟨rfl, f2.no (by simp [hb]) (tk (by decide))⟩
      · rw [dec_no h]
        exact iteF (iteF ⟨rfl, f1.no (by rw [decide_eq_false h]; rfl) (tk (by decide))⟩)
    clear f1 H1
    rintro σ H1 ⟨rfl, f1⟩
    -- 3
    refine ⟨fun σ Hx => σ = [some (.ref z), some (.int (past.length : Int)), some (.int d), some (.str x), some mv, some (.ref p)] ∧ Fd H p ((conds d cs (past.length : Int) x tt t ts).take 3) Hx, ?_, ?_⟩
    · refine ⟨_, rfl, rfl, _, rfl, ?_⟩
      by_cases h : d = 0
      · rw [show decide (V.int d = V.int 0) = true by rw [dec_ii]; exact decide_eq_true h]
        refine iteT ⟨_, rfl, _, rfl, z, _, rfl, DGet.k (k := Sum.inr x) (f1.s _ _ hz), _, rfl, ?_⟩
        rw [kr.some]
        cases hb : (cGet cs x).isSome with
        | true => exact iteT ⟨_, rfl, .inl ⟨rfl, _, SqL.of f1.e⟩, p, _, _, rfl, rfl, f1.e, f1.small, rfl, f1.yes (by rw [decide_eq_true h, hb]; rfl) (tk (by decide))⟩
        | false => exact iteF ⟨rfl, f1.no (by rw [hb]; simp) (tk (by decide))⟩
      · rw [dec_no h]
        exact iteF (iteF ⟨rfl, f1.no (by rw [decide_eq_false h]; rfl) (tk (by decide))⟩)
    clear f1 H1
    rintro σ H1 ⟨rfl, f1⟩
    -- 4
    refine ⟨fun σ Hx => σ = [some (.ref z), some (.int (past.length : Int)), some (.int d), some (.str x), some mv, some (.ref p)] ∧ Fd H p ((conds d cs (past.length : Int) x tt t ts).take 4) Hx, ?_, ?_⟩
    · refine ⟨_, rfl, _, _, rfl, rfl, _, rfl, ?_⟩
      by_cases h : 0 < d
      · rw [decide_eq_true h]
        refine iteT ⟨_, rfl, _, rfl, z, _, rfl, DGet.k (k := Sum.inr x) (f1.s _ _ hz), _, rfl, ?_⟩
        rw [kr.some]
        cases hb : (cGet cs x).isSome with
        | false => exact iteT ⟨_, rfl, .inl ⟨rfl, _, SqL.of f1.e⟩, p, _, _, rfl, rfl, f1.e, f1.small, rfl, f1.yes (by rw [decide_eq_true h, hb]; rfl) (tk (by decide))⟩
        | true => exact iteF ⟨rfl, f1.no (by rw [hb]; simp) (tk (by decide))⟩
      · rw [decide_eq_false h]
        exact iteF (iteF ⟨rfl, f1.no (by rw [decide_eq_false h]; rfl) (tk (by decide))⟩)
    clear f1 H1
    rintro σ H1 ⟨rfl, f1⟩
    -- 5
    refine ⟨fun σ Hx => σ = [some (.ref z), some (.int (past.length : Int)), some (.int d), some (.str x), some mv, some (.ref p)] ∧ Fd H p ((conds d cs (past.length : Int) x tt t ts).take 5) Hx, ?_, ?_⟩
    · refine ⟨_, rfl, _, _, rfl, rfl, _, rfl, ?_⟩
      by_cases h : 1 < d
      · rw [decide_eq_true h]
        have hm := h1 (by omega)
        subst hm
        refine iteT ⟨_, rfl, _, _, rfl, rfl, _, rfl, ?_⟩
        cases ha : decide (t < 0) with
        | true =>
          refine iteT (iteT ⟨_, rfl, .inl ⟨rfl, _, SqL.of f1.e⟩, p, _, _, rfl, rfl, f1.e, f1.small, rfl, f1.yes ?_ (tk (by decide))⟩)
          rw [decide_eq_true h, ha]; rfl
        | false =>
          refine iteF ⟨_, rfl, _, _, rfl, rfl, _, rfl, ?_⟩
          cases hb : decide (7 < t) with
          | true =>
            refine iteT ⟨_, rfl, .inl ⟨rfl, _, SqL.of f1.e⟩, p, _, _, rfl, rfl, f1.e, f1.small, rfl, f1.yes ?_ (tk (by decide))⟩
            rw [decide_eq_true h, ha, hb]; rfl
          | false => exact iteF ⟨rfl, f1.no (by rw [ha, hb]; simp) (tk (by decide))⟩
      · rw [decide_eq_false h]
        exact iteF (iteF ⟨rfl, f1.no (by rw [decide_eq_false h]; rfl) (tk (by decide))⟩)
    clear f1 H1
    rintro σ H1 ⟨rfl, f1⟩
    -- 6
    refine ⟨fun σ Hx => σ = [some (.ref z), some (.int (past.length : Int)), some (.int d), some (.str x), some mv, some (.ref p)] ∧ Fd H p ((conds d cs (past.length : Int) x tt t ts).take 6) Hx, ?_, ?_⟩
    · refine ⟨_, rfl, rfl, _, rfl, ?_⟩
      by_cases h : d = 3
      · rw [show decide (V.int d = V.int 3) = true by rw [dec_ii]; exact decide_eq_true h]
        have hm := h1 (by omega)
        subst hm
        refine iteT ⟨_, rfl, rfl, _, rfl, ?_⟩
        rw [dec_ii]
        cases hb : decide (t = 0) with
        | true => exact iteT ⟨_, rfl, .inl ⟨rfl, _, SqL.of f1.e⟩, p, _, _, rfl, rfl, f1.e, f1.small, rfl, f1.yes (by rw [decide_eq_true h, hb]; rfl) (tk (by decide))⟩
        | false => exact iteF ⟨rfl, f1.no (by rw [hb]; simp) (tk (by decide))⟩
      · rw [dec_no h]
        exact iteF (iteF ⟨rfl, f1.no (by rw [decide_eq_false h]; rfl) (tk (by decide))⟩)
    clear f1 H1
    rintro σ H1 ⟨rfl, f1⟩
    -- the comb's teeth, or none
    have got : ∀ Hx e, Fd H p ((conds d cs (past.length : Int) x tt t ts).take 6) Hx ∨ Same H Hx → Same H Hx → Hx e = none → ∃ o, DGet (upd Hx e (.lst [])) z (V.str x) o ∧ ∃ la, o.getD (.ref e) = V.ref la ∧ SqL K (upd Hx e (.lst [])) la (ts.map V.int) := by
      intro Hx e _ sx ne
      have sy : Same H (upd Hx e (.lst [])) := sx.put (sx.free ne)
      refine ⟨_, DGet.k (k := Sum.inr x) (sy _ _ hz), ?_⟩
      rcases kr.val (x := x) with ⟨e1, e2⟩ | ⟨us, ta, e1, e2, e3, _⟩
      · refine ⟨e, by rw [e2]; rfl, ?_⟩
        rw [hts, e1]
        exact SqL.of upd_same
      · refine ⟨ta, by rw [e2]; rfl, ?_⟩
        rw [hts, e1]
        exact SqL.of (sy _ _ e3)
    -- 7
    refine ⟨fun σ Hx => σ = [some (.ref z), some (.int (past.length : Int)), some (.int d), some (.str x), some mv, some (.ref p)] ∧ Fd H p ((conds d cs (past.length : Int) x tt t ts).take 7) Hx, ?_, ?_⟩
    · refine ⟨_, rfl, rfl, _, rfl, ?_⟩
      by_cases h : d = 2
      · rw [show decide (V.int d = V.int 2) = true by rw [dec_ii]; exact decide_eq_true h]
        have hm := h1 (by omega)
        subst hm
        refine iteT ⟨_, rfl, _, rfl, z, rfl, .inl ⟨kvs, .inl (f1.s _ _ hz)⟩, _, rfl, bigr rfl, fun e ne => ?_⟩
        obtain ⟨o, dg, la, eo, hla⟩ := got H1 e (.inr f1.s) f1.s ne
        refine ⟨o, dg, ?_⟩
        rw [eo]
        refine ⟨_, _, rfl, .inl hla, rfl, flats ts, _, rfl, ?_⟩
        rw [if_neg (by decide), in_int]
        have f2 := f1.same (Same.new (o := .lst []) ne)
        cases hb : decide (t ∈ ts) with
        | true => exact iteT ⟨_, rfl, .inl ⟨rfl, _, SqL.of f2.e⟩, p, _, _, rfl, rfl, f2.e, f2.small, rfl, f2.yes (by rw [decide_eq_true h, hb]; rfl) (tk (by decide))⟩
        | false => exact iteF ⟨rfl, f2.no (by rw [hb]; simp) (tk (by decide))⟩
      · rw [dec_no h]
        exact iteF (iteF ⟨rfl, f1.no (by rw [decide_eq_false h]; rfl) (tk (by decide))⟩)
    clear f1 H1
    rintro σ H1 ⟨rfl, f1⟩
    -- 8
    refine ⟨fun σ Hx => σ = [some (.ref z), some (.int (past.length : Int)), some (.int d), some (.str x), some mv, some (.ref p)] ∧ Fd H p ((conds d cs (past.length : Int) x tt t ts).take 8) Hx, ?_, ?_⟩
    · refine ⟨_, rfl, rfl, _, rfl, ?_⟩
      by_cases h : d = 3
      · rw [show decide (V.int d = V.int 3) = true by rw [dec_ii]; exact decide_eq_true h]
        have hm := h1 (by omega)
        subst hm
        refine iteT ⟨_, rfl, _, rfl, z, rfl, .inl ⟨kvs, .inl (f1.s _ _ hz)⟩, _, rfl, bigr rfl, fun e ne => ?_⟩
        obtain ⟨o, dg, la, eo, hla⟩ := got H1 e (.inr f1.s) f1.s ne
        refine ⟨o, dg, ?_⟩
        rw [eo]
        refine ⟨_, _, rfl, .inl hla, rfl, flats ts, _, rfl, ?_⟩
        rw [if_pos rfl, in_int]
        have f2 := f1.same (Same.new (o := .lst []) ne)
        cases hb : decide (t ∈ ts) with
        | false => exact iteT ⟨_, rfl, .inl ⟨rfl, _, SqL.of f2.e⟩, p, _, _, rfl, rfl, f2.e, f2.small, rfl, f2.yes (by rw [decide_eq_true h, hb]; rfl) (tk (by decide))⟩
        | true => exact iteF ⟨rfl, f2.no (by rw [hb]; simp) (tk (by decide))⟩
      · rw [dec_no h]
        exact iteF (iteF ⟨rfl, f1.no (by rw [decide_eq_false h]; rfl) (tk (by decide))⟩)
    clear f1 H1
    rintro σ H1 ⟨rfl, f1⟩
    -- 9
    refine ⟨fun σ Hx => σ = [some (.ref z), some (.int (past.length : Int)), some (.int d), some (.str x), some mv, some (.ref p)] ∧ Fd H p (conds d cs (past.length : Int) x tt t ts) Hx, ?_, ?_⟩
    · refine ⟨_, rfl, rfl, _, rfl, ?_⟩
      rw [dec_ii]
      cases hb : decide ((past.length : Int) = 300) with
      | true => exact iteT ⟨_, rfl, .inl ⟨rfl, _, SqL.of f1.e⟩, p, _, _, rfl, rfl, f1.e, f1.small, rfl, f1.yes hb (tk (by decide))⟩
      | false => exact iteF ⟨rfl, f1.no hb (tk (by decide))⟩
    clear f1 H1
    rintro σ H1 ⟨rfl, f1⟩
    refine ⟨_, rfl, bigr rfl, fun p2 np2 => ?_⟩
    have s2 : Same H1 (upd H1 p2 (.lst [V.str (Str.ofString "")])) := Same.new np2
    have f2 := f1.same s2
    refine ⟨p, p2, _, _, rfl, rfl, f2.e, upd_same, ?_, fun p3 np3 => ?_⟩
    · have := fl_len (conds d cs (past.length : Int) x tt t ts)
      rw [List.length_map]
      exact big (by show _ + 1 ≤ 1000; have := f1.k; omega)
    have s3 := f2.s.put (o := .lst ((fl (conds d cs (past.length : Int) x tt t ts)).map V.str ++ [V.str (Str.ofString "")])) (f2.s.free np3)
    refine ⟨_, _, _, V.str (dueN r), rfl, rfl, SqL.of upd_same, ?_, q _ s3⟩
    have e : (fl (conds d cs (past.length : Int) x tt t ts)).map V.str ++ [V.str (Str.ofString "")] = (fl (conds d cs (past.length : Int) x tt t ts) ++ [Str.ofString ""]).map V.str := by rw [List.map_append]; rfl
    rw [e]
    show atI _ ((0 : Nat) : Int) = _
    refine atI_nat ?_
    rw [List.getElem?_map, fin]
    rfl
/-- the law's trail beside the book -/
structure St7 (C : Addr) (b l pl : Addr) (G : Addr → Prop) (H : Hp) (vs : List V) (cs : Combs) (past : List Combs) : Prop where
  bk : Bk C G H b l cs past
  hpl : H pl = some (.lst vs)
  npl : ¬ G pl ∧ pl ≠ b ∧ pl ≠ l
  tr : Trail (fun t => t ≠ l ∧ t ≠ pl) G H vs (past ++ [cs])
theorem St7.same {C b l pl : Addr} {G : Addr → Prop} {H H' : Hp} {vs : List V} {cs : Combs} {past : List Combs} (x : St7 C b l pl G H vs cs past) (s : Same H H') : St7 C b l pl G H' vs cs past := ⟨x.bk.same s, s _ _ x.hpl, x.npl, x.tr.same s⟩
theorem St7.len {C b l pl : Addr} {G : Addr → Prop} {H : Hp} {vs : List V} {cs : Combs} {past : List Combs} (x : St7 C b l pl G H vs cs past) : vs.length = past.length + 1 := by
  have := Paired.length x.tr
  rw [List.length_append, List.length_singleton] at this
  exact this
theorem St7.last {C b l pl : Addr} {G : Addr → Prop} {H : Hp} {vs : List V} {cs : Combs} {past : List Combs} (x : St7 C b l pl G H vs cs past) : ∃ z, atI vs (-1) = some (V.ref z) ∧ Kept (fun t => t ≠ l ∧ t ≠ pl) H z cs ∧ ¬ G z := by
  obtain ⟨vs', v, e, _, z, rfl, k, n⟩ := trail_last x.tr
  exact ⟨z, by rw [e]; exact at_last _ _, k, n⟩
/-- behind a deed, with the new dict at the end of the trail -/
theorem St7.snoc {C b l pl m : Addr} {G G' : Addr → Prop} {H H' : Hp} {vs : List V} {cs cs' : Combs} {past : List Combs} (x : St7 C b l pl G H vs cs past) (mv : Mv b l G G' H H') (B : Bk C G' H' b l cs' (past ++ [cs])) (k : Kept (fun t => t ≠ l ∧ t ≠ pl) H' m cs') (n : ¬ G' m) :
    H' pl = some (.lst vs) ∧ St7 C b l pl G' (upd H' pl (.lst (vs ++ [.ref m]))) (vs ++ [.ref m]) cs' (past ++ [cs]) := by
  have hp := mv.keep _ _ x.hpl x.npl.2.1 x.npl.2.2
  have nG := mv.not x.hpl x.npl.1
  refine ⟨hp, B.upd nG x.npl.2.1 x.npl.2.2, upd_same, ⟨nG, x.npl.2⟩, ?_⟩
  have t1 := (x.tr.mv (fun t h => h.1) x.bk mv).updL (o := .lst (vs ++ [.ref m])) (fun t h => h.2) hp
  exact Paired.snoc t1 ⟨m, rfl, k.updL (fun t h => h.2) hp, n⟩
def sAB : Str := Str.ofString "ab"
def sB : Str := Str.ofString "b"
def abC (tb : List Int) : Combs := [(sAB, [0, 3]), (sB, tb)]
theorem ab_ne : ¬ sAB = sB := by decide +kernel
theorem get_b (tb : List Int) : cGet (abC tb) sB = some tb := by
  unfold abC
  rw [get_cons, if_neg ab_ne, get_cons, if_pos rfl]
theorem put_b (tb us : List Int) : cPut (abC tb) sB us = abC us := by
  rw [put_old (get_b tb)]
  unfold abC
  simp [ab_ne]
theorem off_b {past : List Combs} (h : past.length < 300) : offD (abC [0, 5]) past sB 5 = .ok (abC [0]) := by
  unfold offD
  rw [get_b]
  dsimp only
  rw [if_neg (by decide), if_neg (by decide), if_neg (by decide), full_few h, put_b]
  rfl
theorem add_b {past : List Combs} (h : past.length < 300) : addD (abC [0]) past sB 5 = .ok (abC [0, 5]) := by
  unfold addD
  rw [get_b]
  dsimp only
  rw [if_neg (by decide), if_neg (by decide), full_few h, put_b]
  rfl
theorem St7.mv {C b l pl : Addr} {G G' : Addr → Prop} {H H' : Hp} {vs : List V} {cs cs' : Combs} {past past' : List Combs} (x : St7 C b l pl G H vs cs past) (m : Mv b l G G' H H') (B : Bk C G' H' b l cs' past') : H' pl = some (.lst vs) ∧ (¬ G' pl ∧ pl ≠ b ∧ pl ≠ l) ∧ Trail (fun t => t ≠ l ∧ t ≠ pl) G' H' vs (past ++ [cs]) :=
  ⟨m.keep _ _ x.hpl x.npl.2.1 x.npl.2.2, ⟨m.not x.hpl x.npl.1, x.npl.2⟩, x.tr.mv (fun t h => h.1) x.bk m⟩
theorem St7.fresh {C b l pl : Addr} {G : Addr → Prop} {H : Hp} {vs : List V} {cs : Combs} {past : List Combs} (x : St7 C b l pl G H vs cs past) {t : Addr} (h : H t = none) : t ≠ l ∧ t ≠ pl :=
  ⟨fun e => x.bk.liveB.2 (by rw [← e]; exact h), fun e => by rw [e, x.hpl] at h; cases h⟩
/-- a deed of the book and its dict at the trail's end -/
def Far (b l pl : Addr) (H H' : Hp) : Prop := ∀ a o, H a = some o → a ≠ b → a ≠ l → a ≠ pl → H' a = some o
theorem Far.trans {b l pl : Addr} {H H1 H2 : Hp} (f : Far b l pl H H1) (g : Far b l pl H1 H2) : Far b l pl H H2 := fun a o e n1 n2 n3 => g a o (f a o e n1 n2 n3) n1 n2 n3
theorem Far.ofSame {b l pl : Addr} {H H1 : Hp} (s : Same H H1) : Far b l pl H H1 := fun a o e _ _ _ => s a o e
theorem Far.ofMv {b l pl : Addr} {G G' : Addr → Prop} {H H1 : Hp} (m : Mv b l G G' H H1) : Far b l pl H H1 := fun a o e n1 n2 _ => m.keep a o e n1 n2
theorem Far.upd {b l pl : Addr} {H : Hp} {o : HO} : Far b l pl H (upd H pl o) := fun a o e _ _ n3 => by rw [upd_ne n3]; exact e
def N4 : List Str := [sAB, sB, Str.ofString "c", Str.ofString "dd"]
/-- the names of a book and of all that it was -/
def Nm (cs : Combs) (past : List Combs) : Prop := (∀ c ∈ cs, c.1 ∈ N4) ∧ (∀ p ∈ past, ∀ c ∈ p, c.1 ∈ N4) ∧ (past ++ [cs]).head? = some []
theorem Nm.snoc {cs cs' : Combs} {past : List Combs} (n : Nm cs past) (h : ∀ c ∈ cs', c.1 ∈ N4) : Nm cs' (past ++ [cs]) := ⟨h, fun p hp => by
  rcases List.mem_append.mp hp with z | z
  · exact n.2.1 p z
  · rw [List.mem_singleton.mp z]; exact n.1, by rw [List.head?_append, n.2.2]; rfl⟩
theorem Nm.back {cs p : Combs} {past : List Combs} (n : Nm cs (past ++ [p])) : Nm p past := ⟨n.2.1 p (by simp), fun q hq => n.2.1 q (List.mem_append_left _ hq), by
  have h := n.2.2
  cases e : (past ++ [p]).head? with
  | none => simp at e
  | some y => rw [List.head?_append, e] at h; exact h⟩
theorem Nm.nil {cs : Combs} (n : Nm cs []) : cs = [] := by
  have h := n.2.2
  simpa using h
theorem nm_ab (tb : List Int) : ∀ c ∈ abC tb, c.1 ∈ N4 := by
  intro c hc
  rcases List.mem_cons.mp hc with z | z
  · rw [z]; exact (show sAB ∈ N4 by decide +kernel)
  · rw [List.mem_singleton.mp z]; exact (show sB ∈ N4 by decide +kernel)
def sp_filled8 (C : Addr) : Sp := fun vs H Q _ => ∃ (b l pl : Addr) (G : Addr → Prop) (ws : List V) (past : List Combs) (tb : List Int) (many : Int), vs = [.ref b, .ref pl, .int many] ∧ St7 C b l pl G H ws (abC tb) past ∧ (tb = [0] ∨ tb = [0, 5]) ∧ (past.length : Int) ≤ many ∧ many ≤ 300 ∧ Nm (abC tb) past ∧
  ∀ H' G' ws' past' tb', St7 C b l pl G' H' ws' (abC tb') past' → (tb' = [0] ∨ tb' = [0, 5]) → (past'.length : Int) = many → Far b l pl H H' → Nm (abC tb') past' → Q .non H'
theorem sc_filled : FnScope ["_law_book_here", "_law_past", "_law_many", "_law_kept"] ["_law_book_here", "_law_past", "_law_many"] (defScope s_filled) := ⟨rfl, rfl, rfl, by decide +kernel, rfl, by decide +kernel, by decide +kernel⟩
theorem ok_filled {ea : Nat → Addr} {C : Addr} (D : DefAt K mg "_law_filled" s_filled) (T : Bn mg) (BA : BookAt K C) (C_done : Callee P w K mg base "_law_done" 1 ["_law_kept", "_law_deed", "_law_word", "_law_more"] (sp_done K)) (M_add_tooth : Method P w K mg base C "add_tooth" (CX1 P w) 3 ["self", "name", "tooth"] (sp_badd ea C)) (M_take_off : Method P w K mg base C "take_off" (CX1 P w) 3 ["self", "name", "tooth"] (sp_boff ea C)) :
    Callee P w K mg base "_law_filled" 4 ["_law_book_here", "_law_past", "_law_many"] (sp_filled8 C) := by
  refine D.callee sc_filled (fun _ _ _ _ _ _ us hl => match us, hl with | [_, _, _], _ => rfl) (fun vs H Q E h => ?_) (fun f cdv A outer s H vs Q E hr h => ?_)
  · obtain ⟨b, l, pl, G, ws, past, tb, many, rfl, _⟩ := h
    rfl
  · obtain ⟨b, l, pl, G, ws, past, tb, many, rfl, xx, htb, hle, h300, hnm, q⟩ := h
    have S := sc_filled
    have hu := hu_of hr
    have B_cls := BA.cls
    refine ⟨_, pss_one (ps_while PassesOwn.never (pt_cmpR op_le (pe_callB call_len_seq rfl T.n_len PySem.boot_len (pa_cons (pv 1) pa_nil)) (pv 2) (nomark _))
      (pss_cons (ps_set (i := 3) S.nd rfl (Or.inl rfl) (pe_ix ix_list (pv 1) (pe_un un_neg (pe_int)) (fun _ _ => rfl)))
      (pss_one (ps_if (pt_cmpR op_in_seq (pe_int) (pe_dget hu (pv 3) (pe_str) (fun _ _ => rfl)) (by with_unfolding_all rfl))
        (pss_cons (ps_expr (pe_mt (pv 0) B_cls M_take_off (hr.mono (by decide)) (by first | exact pass0 | exact pass_try | exact pass1 | exact pass_E0) (pa_cons (pe_str) (pa_cons (pe_int) pa_nil))))
        (pss_one (ps_expr (pe_bm PySem.F.plainAttrs_list PySem.F.slot_list_append PySem.F.type_list_append mt_append (pv 1) (pa_cons (pe_fn C_done (hr.mono (by decide)) rfl (pa_cons (pv 3) (pa_cons (pe_int) (pa_cons (pe_str) (pa_cons (pe_int) pa_nil))))) pa_nil)))))
        (pss_cons (ps_expr (pe_mt (pv 0) B_cls M_add_tooth (hr.mono (by decide)) (by first | exact pass0 | exact pass_try | exact pass1 | exact pass_E0) (pa_cons (pe_str) (pa_cons (pe_int) pa_nil))))
        (pss_one (ps_expr (pe_bm PySem.F.plainAttrs_list PySem.F.slot_list_append PySem.F.type_list_append mt_append (pv 1) (pa_cons (pe_fn C_done (hr.mono (by decide)) rfl (pa_cons (pv 3) (pa_cons (pe_int) (pa_cons (pe_str) (pa_cons (pe_int) pa_nil))))) pa_nil))))))))), ?_⟩
    refine ⟨fun mm σ Hx => ∃ G ws past tb x3, σ = [some (.ref b), some (.ref pl), some (.int many), x3] ∧ St7 C b l pl G Hx ws (abC tb) past ∧ (tb = [0] ∨ tb = [0, 5]) ∧ (past.length : Int) ≤ many ∧ Far b l pl H Hx ∧ Nm (abC tb) past ∧ mm = (many - past.length).toNat, ⟨_, G, ws, past, tb, _, rfl, xx, htb, hle, Far.ofSame (Same.refl H), hnm, rfl⟩, ?_⟩
    clear xx htb hle hnm
    rintro mm σ Hx ⟨G, ws, past, tb, x3, rfl, xx, htb, hle, far, hnm, rfl⟩
    have hlen := xx.len
    refine ⟨_, rfl, _, _, rfl, .inl (SqL.of xx.hpl), _, rfl, _, _, rfl, rfl, _, rfl, ?_⟩
    refine ite2 (fun hc => ?_) (fun hc => ?_)
    · have hlt : (past.length : Int) < many := by
        have : (ws.length : Int) ≤ many := by simpa using hc
        omega
      have few : past.length < 300 := by omega
      refine ⟨fun σ Hx => ∃ G ws past2 tb x3, σ = [some (.ref b), some (.ref pl), some (.int many), x3] ∧ St7 C b l pl G Hx ws (abC tb) past2 ∧ (tb = [0] ∨ tb = [0, 5]) ∧ past2.length = past.length + 1 ∧ Far b l pl H Hx ∧ Nm (abC tb) past2, fun σ' H' h => ?_, ?_⟩
      · obtain ⟨G, ws, past2, tb, x3, e, x, ht, hl2, fr, hn2⟩ := h
        exact ⟨_, by omega, G, ws, past2, tb, x3, e, x, ht, by omega, fr, hn2, rfl⟩
      obtain ⟨z, hz, kz, nz⟩ := xx.last
      refine ⟨_, rfl, _, rfl, _, _, _, _, rfl, rfl, SqL.of xx.hpl, hz, ?_⟩
      obtain ⟨kvs, hzz, kr⟩ := id kz
      rcases kr.val (x := sB) with ⟨e1, _⟩ | ⟨tb', ta, e1, e2, e3, e4⟩
      · rw [get_b] at e1; cases e1
      rw [get_b] at e1
      cases e1
      have dg : DGet Hx z (kV (Sum.inr sB)) (some (.ref ta)) := by rw [← e2]; exact DGet.k hzz
      obtain ⟨dx, d, hb, _⟩ := id xx.bk.ins
      refine ⟨_, rfl, z, _, rfl, dg, _, _, rfl, .inl (SqL.of e3), rfl, flats tb, _, rfl, ?_⟩
      rw [if_neg (by decide), in_int]
      -- the end of both ways
      have fin : ∀ (H1 : Hp) (G1 : Addr → Prop) (us : List Int), Mv b l G G1 Hx H1 → Bk C G1 H1 b l (abC us) (past ++ [abC tb]) → (us = [0] ∨ us = [0, 5]) → ∀ H2 m, Same H1 H2 → H1 m = none → Kept (fun t => t ≠ l ∧ t ≠ pl) H2 m (abC us) →
          H2 pl = some (.lst ws) ∧ ws.length < sizeLine ∧ ∃ G ws2 past2 tb x3', [some (V.ref b), some (V.ref pl), some (V.int many), some (V.ref z)] = [some (.ref b), some (.ref pl), some (.int many), x3'] ∧ St7 C b l pl G (upd H2 pl (.lst (ws ++ [.ref m]))) ws2 (abC tb) past2 ∧ (tb = [0] ∨ tb = [0, 5]) ∧ past2.length = past.length + 1 ∧ Far b l pl H (upd H2 pl (.lst (ws ++ [.ref m]))) ∧ Nm (abC tb) past2 := by
        intro H1 G1 us m1 B1 hus H2 m s2 nm km
        have nGm : ¬ G1 m := fun g => B1.live m g nm
        obtain ⟨hp2, x2⟩ := xx.snoc (m1.trans (Mv.ofSame s2)) (B1.same s2) km nGm
        refine ⟨hp2, Nat.lt_of_lt_of_le (by omega : ws.length < 1000) sizeBig, G1, _, _, us, _, rfl, x2, hus, by rw [List.length_append, List.length_singleton], ?_, hnm.snoc (nm_ab us)⟩
        exact far.trans ((Far.ofMv m1).trans ((Far.ofSame s2).trans Far.upd))
      rcases htb with rfl | rfl
      · rw [decide_eq_false (by decide : ¬ (5 : Int) ∈ ([0] : List Int))]
        refine iteF ?_
        refine ⟨_, rfl, b, dx, _, rfl, hb, rfl, b, l, G, abC [0], past, sB, 5, rfl, xx.bk, ?_⟩
        rw [add_b few]
        intro H1 G1 m1 B1
        have hp1 := m1.keep _ _ xx.hpl xx.npl.2.1 xx.npl.2.2
        refine ⟨_, rfl, .inl ⟨rfl, _, SqL.of hp1⟩, _, rfl, z, _, abC [0], past, abC [0, 5], 2, sB, _, rfl, kz.mvL (fun t h => h.1) xx.bk m1, xx.bk.good, .inr (.inr (.inl ⟨rfl, 5, rfl, (add_b few).symm⟩)), fun t h => xx.fresh (by
          cases e : Hx t with
          | none => rfl
          | some o => exact absurd h (m1.on t (by rw [e]; simp))), fun H2 m s2 nm km => ?_⟩
        obtain ⟨hp2, hl2, w2⟩ := fin H1 G1 [0, 5] m1 B1 (.inr rfl) H2 m s2 nm km
        exact ⟨pl, _, _, rfl, rfl, hp2, hl2, w2⟩
      · rw [decide_eq_true (by decide : (5 : Int) ∈ ([0, 5] : List Int))]
        refine iteT ?_
        refine ⟨_, rfl, b, dx, _, rfl, hb, rfl, b, l, G, abC [0, 5], past, sB, 5, rfl, xx.bk, ?_⟩
        rw [off_b few]
        intro H1 G1 m1 B1
        have hp1 := m1.keep _ _ xx.hpl xx.npl.2.1 xx.npl.2.2
        refine ⟨_, rfl, .inl ⟨rfl, _, SqL.of hp1⟩, _, rfl, z, _, abC [0, 5], past, abC [0], 3, sB, _, rfl, kz.mvL (fun t h => h.1) xx.bk m1, xx.bk.good, .inr (.inr (.inr ⟨rfl, 5, rfl, (off_b few).symm⟩)), fun t h => xx.fresh (by
          cases e : Hx t with
          | none => rfl
          | some o => exact absurd h (m1.on t (by rw [e]; simp))), fun H2 m s2 nm km => ?_⟩
        obtain ⟨hp2, hl2, w2⟩ := fin H1 G1 [0] m1 B1 (.inl rfl) H2 m s2 nm km
        exact ⟨pl, _, _, rfl, rfl, hp2, hl2, w2⟩
    · have heq : (past.length : Int) = many := by
        have : ¬ (ws.length : Int) ≤ many := by simpa using hc
        omega
      exact q Hx G ws past tb xx htb heq far hnm
theorem at0 {x y : V} : atI [x, y] 0 = some x := show atI [x, y] ((0 : Nat) : Int) = _ from atI_nat rfl
theorem at1 {x y : V} : atI [x, y] 1 = some y := show atI [x, y] ((1 : Nat) : Int) = _ from atI_nat rfl
def sp_told (K : PySem.W.Frag) : Sp := fun vs H Q _ => ∃ (a : Addr) (d : Int), vs = [.ref a, .int d] ∧ H a = some (.tup [.str (Str.ofString "told"), .int d]) ∧ Q (.bl true) H
theorem sc_told : FnScope ["_law_found", "_law_due_here"] ["_law_found", "_law_due_here"] (defScope s_told) := ⟨rfl, rfl, rfl, by decide +kernel, rfl, by decide +kernel, by decide +kernel⟩
theorem ok_told (D : DefAt K mg "_law_told" s_told) (T : Bn mg) (C_whole : Callee P w K mg base "_law_whole" 1 ["_law_found"] sp_whole) : Callee P w K mg base "_law_told" 2 ["_law_found", "_law_due_here"] (sp_told K) := by
  refine D.callee sc_told (fun _ _ _ _ _ _ us hl => match us, hl with | [_, _], _ => rfl) (fun vs H Q E h => ?_) (fun f cdv A outer s H vs Q E hr h => ?_)
  · obtain ⟨a, d, rfl, _⟩ := h
    rfl
  · obtain ⟨a, d, rfl, ha, q⟩ := h
    have S := sc_told
    have a0 : atI [V.str (Str.ofString "told"), V.int d] 0 = some (V.str (Str.ofString "told")) := at0
    have a1 : atI [V.str (Str.ofString "told"), V.int d] 1 = some (V.int d) := at1
    refine ⟨_, pss_cons (ps_if (PW.pt (pw_or (pt_not (pt_val (pe_callB (call_isT "tuple") rfl T.n_isinstance boot_isinstance (pa_cons (pv 0) (pa_cons (pe_bltn (v := .ty "tuple") rfl T.n_tuple boot_tuple rfl) pa_nil))))) (pw_or (pt_cmpR op_ne (pe_callB call_len_seq rfl T.n_len PySem.boot_len (pa_cons (pv 0) pa_nil)) (pe_int) (nomark _)) (pw_or1 (pt_cmpR op_ne (pe_ix ix_tup (pv 0) (pe_int) (fun _ _ => rfl)) (pe_str) (nomark _))))))
      (pss_one (ps_ret (pe_bl)))
      (pss_nil))
    (pss_one (ps_ret (pe_and (pe_fn C_whole (hr.mono (by decide)) rfl (pa_cons (pe_ix ix_tup (pv 0) (pe_int) (fun _ _ => rfl)) pa_nil)) (pe_one (pe_cmpR op_eq (pe_ix ix_tup (pv 0) (pe_int) (fun _ _ => rfl)) (pv 1) (nomark _)))))), ?_⟩
    refine ⟨_, rfl, _, _, true, rfl, .tup ha, rfl, _, rfl, ?_⟩
    refine iteF ?_
    refine ⟨_, rfl, _, _, rfl, .inr (SqT.of ha), rfl, _, rfl, ?_⟩
    refine iteF ?_
    refine ⟨_, rfl, _, _, _, _, rfl, rfl, SqT.of ha, a0, rfl, _, rfl, ?_⟩
    have e0 : (!decide (V.str (Str.ofString "told") = V.str (Str.ofString "told"))) = false := by simp
    refine iteF ?_
    refine ⟨_, rfl, _, _, _, _, rfl, rfl, SqT.of ha, a1, d, rfl, _, rfl, ?_⟩
    refine iteT ?_
    refine ⟨_, rfl, _, _, _, _, rfl, rfl, SqT.of ha, a1, _, rfl, rfl, ?_⟩
    have e1 : decide (V.int d = V.int d) = true := decide_eq_true rfl
    rw [e1]
    exact q
def sp_refused (K : PySem.W.Frag) : Sp := fun vs H Q _ => ∃ (a l : Addr) (x : Str), vs = [.ref a, .str x] ∧ PyData.strOk x = true ∧ H a = some (.tup [.str (Str.ofString "refused"), .ref l]) ∧ H l = some (.lst [.str x]) ∧ ∀ H', Same H H' → Q (.bl true) H'
theorem shaped_one {x : Str} (h : PyData.strOk x = true) : SeqAt.shaped (.list [.str x]) = true := by simp [h, SeqAt.shaped, PyData.canLay0, PyData.canLayAll0, PyData.depth, PyData.depthAll]
theorem eqv_one (x : Str) : PyData.eqv (.list [.str x]) (.list [.str x]) = true := by simp [PyData.eqv, PyData.eqvAll]
theorem sc_refused : FnScope ["_law_found", "_law_due_here"] ["_law_found", "_law_due_here"] (defScope s_refused) := ⟨rfl, rfl, rfl, by decide +kernel, rfl, by decide +kernel, by decide +kernel⟩
theorem ok_refused (D : DefAt K mg "_law_refused" s_refused) (T : Bn mg) : Callee P w K mg base "_law_refused" 2 ["_law_found", "_law_due_here"] (sp_refused K) := by
  refine D.callee sc_refused (fun _ _ _ _ _ _ us hl => match us, hl with | [_, _], _ => rfl) (fun vs H Q E h => ?_) (fun f cdv A outer s H vs Q E hr h => ?_)
  · obtain ⟨a, l, x, rfl, _⟩ := h
    rfl
  · obtain ⟨a, l, x, rfl, hok, ha, hl, q⟩ := h
    have S := sc_refused
    have a0 : atI [V.str (Str.ofString "refused"), V.ref l] 0 = some (V.str (Str.ofString "refused")) := at0
    have a1 : atI [V.str (Str.ofString "refused"), V.ref l] 1 = some (V.ref l) := at1
    refine ⟨_, pss_cons (ps_if (PW.pt (pw_or (pt_not (pt_val (pe_callB (call_isT "tuple") rfl T.n_isinstance boot_isinstance (pa_cons (pv 0) (pa_cons (pe_bltn (v := .ty "tuple") rfl T.n_tuple boot_tuple rfl) pa_nil))))) (pw_or (pt_cmpR op_ne (pe_callB call_len_seq rfl T.n_len PySem.boot_len (pa_cons (pv 0) pa_nil)) (pe_int) (nomark _)) (pw_or1 (pt_cmpR op_ne (pe_ix ix_tup (pv 0) (pe_int) (fun _ _ => rfl)) (pe_str) (nomark _))))))
      (pss_one (ps_ret (pe_bl)))
      (pss_nil))
    (pss_one (ps_ret (pe_cmpR (op_eqD hr.units) (pe_ix ix_tup (pv 0) (pe_int) (fun _ _ => rfl)) (pe_lst (pa_cons (pv 1) pa_nil)) (nomark _)))), ?_⟩
    refine ⟨_, rfl, _, _, true, rfl, .tup ha, rfl, _, rfl, ?_⟩
    refine iteF ?_
    refine ⟨_, rfl, _, _, rfl, .inr (SqT.of ha), rfl, _, rfl, ?_⟩
    refine iteF ?_
    refine ⟨_, rfl, _, _, _, _, rfl, rfl, SqT.of ha, a0, rfl, _, rfl, ?_⟩
    refine iteF ?_
    refine ⟨_, rfl, _, _, _, _, rfl, rfl, SqT.of ha, a1, _, rfl, bigr rfl, fun p np => ?_⟩
    have s1 : Same H (upd H p (.lst [.str x])) := Same.new np
    refine ⟨_, _, .lst (SqL.of (s1 _ _ hl)) (.cons (.str x) .nil), .lst (SqL.of upd_same) (.cons (.str x) .nil), shaped_one hok, shaped_one hok, ?_⟩
    rw [if_neg Bool.false_ne_true, eqv_one]
    exact q _ s1
def sp_numbers (K : PySem.W.Frag) : Sp := fun vs H Q _ => ∃ (a b : Addr) (xs ys : List Int), vs = [.ref a, .ref b] ∧ H a = some (.lst (xs.map V.int)) ∧ SqL K H b (ys.map V.int) ∧ ys.length ≤ 100000 ∧ Q (.bl (decide (xs = ys))) H
theorem list_neq {xs ys : List Int} (hl : xs.length = ys.length) {i : Nat} {x y : Int} (hx : xs[i]? = some x) (hy : ys[i]? = some y) (h : ¬ x = y) : ¬ xs = ys := by
  intro z
  subst z
  rw [hx] at hy
  cases hy
  exact h rfl
theorem sc_numbers : FnScope ["_law_found", "_law_due_here", "_law_k"] ["_law_found", "_law_due_here"] (defScope s_numbers) := ⟨rfl, rfl, rfl, by decide +kernel, rfl, by decide +kernel, by decide +kernel⟩
theorem ok_numbers (D : DefAt K mg "_law_numbers" s_numbers) (T : Bn mg) (C_whole : Callee P w K mg base "_law_whole" 1 ["_law_found"] sp_whole) : Callee P w K mg base "_law_numbers" 2 ["_law_found", "_law_due_here"] (sp_numbers K) := by
  refine D.callee sc_numbers (fun _ _ _ _ _ _ us hl => match us, hl with | [_, _], _ => rfl) (fun vs H Q E h => ?_) (fun f cdv A outer s H vs Q E hr h => ?_)
  · obtain ⟨a, b, xs, ys, rfl, _⟩ := h
    rfl
  · obtain ⟨a, b, xs, ys, rfl, ha, hb, hl, q⟩ := h
    have S := sc_numbers
    refine ⟨_, pss_cons (ps_if (PW.pt (pw_or (pt_not (pt_val (pe_callB (call_isT "list") rfl T.n_isinstance boot_isinstance (pa_cons (pv 0) (pa_cons (pe_bltn (v := .ty "list") rfl T.n_list boot_list rfl) pa_nil))))) (pw_or1 (pt_cmpR op_ne (pe_callB call_len_seq rfl T.n_len PySem.boot_len (pa_cons (pv 0) pa_nil)) (pe_callB call_len_seq rfl T.n_len PySem.boot_len (pa_cons (pv 1) pa_nil)) (nomark _)))))
      (pss_one (ps_ret (pe_bl)))
      (pss_nil))
    (pss_cons (ps_for PassesOwn.never rfl (pi_range1 rfl T.n_range (pa_cons (pe_callB call_len_seq rfl T.n_len PySem.boot_len (pa_cons (pv 1) pa_nil)) pa_nil)) (pg_name (i := 2) S.nd rfl (Or.inl rfl))
      (pss_one (ps_if (PW.pt (pw_or (pt_not (pt_val (pe_fn C_whole (hr.mono (by decide)) rfl (pa_cons (pe_ix ix_list (pv 0) (pv 2) (fun _ _ => rfl)) pa_nil)))) (pw_or1 (pt_cmpR op_ne (pe_ix ix_list (pv 0) (pv 2) (fun _ _ => rfl)) (pe_ix ix_list (pv 1) (pv 2) (fun _ _ => rfl)) (nomark _)))))
        (pss_one (ps_ret (pe_bl)))
        (pss_nil))))
    (pss_one (ps_ret (pe_bl)))), ?_⟩
    refine ⟨_, rfl, _, _, true, rfl, .lst ha, rfl, _, rfl, ?_⟩
    refine iteF ?_
    refine ⟨_, rfl, _, _, rfl, .inl (SqL.of ha), _, rfl, _, _, rfl, .inl hb, rfl, _, rfl, ?_⟩
    rw [List.length_map, List.length_map]
    refine ite2 (fun hc => ?_) (fun hc => ?_)
    · have : ¬ xs = ys := fun z => by
        subst z
        simp at hc
      rw [decide_eq_false this] at q
      exact q
    · have hxy : xs.length = ys.length := by
        have : (xs.length : Int) = ys.length := by simpa using hc
        omega
      refine ⟨_, rfl, _, _, rfl, .inl hb, _, rfl, ?_, ?_, ?_⟩
      · rw [List.length_map]; omega
      · rw [List.length_map]; omega
      rw [List.length_map]
      refine for_g (gives_range 0 (ys.length : Int).toNat) (fun i σ H2 => H2 = H ∧ xs.take i = ys.take i ∧ ∃ x2, σ = [some (.ref a), some (.ref b), x2]) ⟨rfl, by simp, _, rfl⟩ (fun _ _ _ _ _ => trivial) ?_ ?_
      · rintro i x σ H2 hx ⟨rfl, ht, x2, rfl⟩
        have hi : i < (ys.length : Int).toNat := by
          have := (List.getElem?_eq_some_iff.mp hx).1
          simpa using this
        rw [List.getElem?_map, List.getElem?_range hi] at hx
        cases hx
        have hiy : i < ys.length := by omega
        have hix : i < xs.length := by omega
        have atx : atI (xs.map V.int) (0 + ((i : Nat) : Int)) = some (V.int xs[i]) := by
          rw [Int.zero_add]
          refine atI_nat ?_
          rw [List.getElem?_map, List.getElem?_eq_getElem hix]
          rfl
        have aty : atI (ys.map V.int) (0 + ((i : Nat) : Int)) = some (V.int ys[i]) := by
          rw [Int.zero_add]
          refine atI_nat ?_
          rw [List.getElem?_map, List.getElem?_eq_getElem hiy]
          rfl
        refine ⟨_, rfl, _, rfl, _, _, _, _, rfl, rfl, SqL.of ha, atx, _, rfl, _, rfl, ?_⟩
        refine iteF ?_
        refine ⟨_, rfl, _, rfl, _, _, _, _, rfl, rfl, SqL.of ha, atx, _, rfl, _, rfl, _, _, _, _, rfl, rfl, hb, aty, rfl, _, rfl, ?_⟩
        refine ite2 (fun hc => ?_) (fun hc => ?_)
        · have hne : ¬ xs[i] = ys[i] := by simpa using hc
          rw [decide_eq_false (list_neq hxy (List.getElem?_eq_getElem hix) (List.getElem?_eq_getElem hiy) hne)] at q
          exact q
        · have he : xs[i] = ys[i] := by simpa using hc
          refine ⟨rfl, ?_, _, rfl⟩
          rw [take_snoc (List.getElem?_eq_getElem hix), take_snoc (List.getElem?_eq_getElem hiy), ht, he]
      · rintro σ H2 ⟨rfl, ht, x2, rfl⟩
        have : xs = ys := by
          rw [List.length_map, List.length_range] at ht
          rwa [List.take_of_length_le (by omega), List.take_of_length_le (by omega)] at ht
        rw [decide_eq_true this] at q
        exact q
def sp_texts (K : PySem.W.Frag) : Sp := fun vs H Q _ => ∃ (a b : Addr) (xs ys : List Str), vs = [.ref a, .ref b] ∧ H a = some (.lst (xs.map V.str)) ∧ SqL K H b (ys.map V.str) ∧ ys.length ≤ 100000 ∧ Q (.bl (decide (xs = ys))) H
theorem list_neqS {xs ys : List Str} (hl : xs.length = ys.length) {i : Nat} {x y : Str} (hx : xs[i]? = some x) (hy : ys[i]? = some y) (h : ¬ x = y) : ¬ xs = ys := by
  intro z
  subst z
  rw [hx] at hy
  cases hy
  exact h rfl
theorem sc_texts : FnScope ["_law_found", "_law_due_here", "_law_k"] ["_law_found", "_law_due_here"] (defScope s_texts) := ⟨rfl, rfl, rfl, by decide +kernel, rfl, by decide +kernel, by decide +kernel⟩
theorem ok_texts (D : DefAt K mg "_law_texts" s_texts) (T : Bn mg) : Callee P w K mg base "_law_texts" 2 ["_law_found", "_law_due_here"] (sp_texts K) := by
  refine D.callee sc_texts (fun _ _ _ _ _ _ us hl => match us, hl with | [_, _], _ => rfl) (fun vs H Q E h => ?_) (fun f cdv A outer s H vs Q E hr h => ?_)
  · obtain ⟨a, b, xs, ys, rfl, _⟩ := h
    rfl
  · obtain ⟨a, b, xs, ys, rfl, ha, hb, hl, q⟩ := h
    have S := sc_texts
    refine ⟨_, pss_cons (ps_if (PW.pt (pw_or (pt_not (pt_val (pe_callB (call_isT "list") rfl T.n_isinstance boot_isinstance (pa_cons (pv 0) (pa_cons (pe_bltn (v := .ty "list") rfl T.n_list boot_list rfl) pa_nil))))) (pw_or1 (pt_cmpR op_ne (pe_callB call_len_seq rfl T.n_len PySem.boot_len (pa_cons (pv 0) pa_nil)) (pe_callB call_len_seq rfl T.n_len PySem.boot_len (pa_cons (pv 1) pa_nil)) (nomark _)))))
      (pss_one (ps_ret (pe_bl)))
      (pss_nil))
    (pss_cons (ps_for PassesOwn.never rfl (pi_range1 rfl T.n_range (pa_cons (pe_callB call_len_seq rfl T.n_len PySem.boot_len (pa_cons (pv 1) pa_nil)) pa_nil)) (pg_name (i := 2) S.nd rfl (Or.inl rfl))
      (pss_one (ps_if (PW.pt (pw_or (pt_not (pt_val (pe_callB (call_isT "str") rfl T.n_isinstance boot_isinstance (pa_cons (pe_ix ix_list (pv 0) (pv 2) (fun _ _ => rfl)) (pa_cons (pe_bltn (v := .ty "str") rfl T.n_str boot_str rfl) pa_nil))))) (pw_or1 (pt_cmpR op_ne (pe_ix ix_list (pv 0) (pv 2) (fun _ _ => rfl)) (pe_ix ix_list (pv 1) (pv 2) (fun _ _ => rfl)) (nomark _)))))
        (pss_one (ps_ret (pe_bl)))
        (pss_nil))))
    (pss_one (ps_ret (pe_bl)))), ?_⟩
    refine ⟨_, rfl, _, _, true, rfl, .lst ha, rfl, _, rfl, ?_⟩
    refine iteF ?_
    refine ⟨_, rfl, _, _, rfl, .inl (SqL.of ha), _, rfl, _, _, rfl, .inl hb, rfl, _, rfl, ?_⟩
    rw [List.length_map, List.length_map]
    refine ite2 (fun hc => ?_) (fun hc => ?_)
    · have : ¬ xs = ys := fun z => by
        subst z
        simp at hc
      rw [decide_eq_false this] at q
      exact q
    · have hxy : xs.length = ys.length := by
        have : (xs.length : Int) = ys.length := by simpa using hc
        omega
      refine ⟨_, rfl, _, _, rfl, .inl hb, _, rfl, ?_, ?_, ?_⟩
      · rw [List.length_map]; omega
      · rw [List.length_map]; omega
      rw [List.length_map]
      refine for_g (gives_range 0 (ys.length : Int).toNat) (fun i σ H2 => H2 = H ∧ xs.take i = ys.take i ∧ ∃ x2, σ = [some (.ref a), some (.ref b), x2]) ⟨rfl, by simp, _, rfl⟩ (fun _ _ _ _ _ => trivial) ?_ ?_
      · rintro i x σ H2 hx ⟨rfl, ht, x2, rfl⟩
        have hi : i < (ys.length : Int).toNat := by
          have := (List.getElem?_eq_some_iff.mp hx).1
          simpa using this
        rw [List.getElem?_map, List.getElem?_range hi] at hx
        cases hx
        have hiy : i < ys.length := by omega
        have hix : i < xs.length := by omega
        have atx : atI (xs.map V.str) (0 + ((i : Nat) : Int)) = some (V.str xs[i]) := by
          rw [Int.zero_add]
          refine atI_nat ?_
          rw [List.getElem?_map, List.getElem?_eq_getElem hix]
          rfl
        have aty : atI (ys.map V.str) (0 + ((i : Nat) : Int)) = some (V.str ys[i]) := by
          rw [Int.zero_add]
          refine atI_nat ?_
          rw [List.getElem?_map, List.getElem?_eq_getElem hiy]
          rfl
        refine ⟨_, rfl, _, rfl, _, _, _, _, rfl, rfl, SqL.of ha, atx, _, _, true, rfl, .str _, rfl, _, rfl, ?_⟩
        refine iteF ?_
        refine ⟨_, rfl, _, rfl, _, _, _, _, rfl, rfl, SqL.of ha, atx, _, rfl, _, rfl, _, _, _, _, rfl, rfl, hb, aty, rfl, _, rfl, ?_⟩
        refine ite2 (fun hc => ?_) (fun hc => ?_)
        · have hne : ¬ xs[i] = ys[i] := by simpa using hc
          rw [decide_eq_false (list_neqS hxy (List.getElem?_eq_getElem hix) (List.getElem?_eq_getElem hiy) hne)] at q
          exact q
        · have he : xs[i] = ys[i] := by simpa using hc
          refine ⟨rfl, ?_, _, rfl⟩
          rw [take_snoc (List.getElem?_eq_getElem hix), take_snoc (List.getElem?_eq_getElem hiy), ht, he]
      · rintro σ H2 ⟨rfl, ht, x2, rfl⟩
        have : xs = ys := by
          rw [List.length_map, List.length_range] at ht
          rwa [List.take_of_length_le (by omega), List.take_of_length_le (by omega)] at ht
        rw [decide_eq_true this] at q
        exact q
def sp_same (C : Addr) : Sp := fun vs H Q _ => ∃ b l G cs past a cs' n, vs = [.ref b, .ref a, .int n] ∧ Bk C G H b l cs past ∧ Kept (fun _ => True) H a cs' ∧ ¬ G a ∧ (cs'.map (·.1)).Perm (cs.map (·.1)) ∧ (∀ c ∈ cs', cGet cs c.1 = some c.2) ∧ n = (past.length : Int) ∧ ∀ H', Same H H' → Q (.bl true) H'
theorem sc_same : FnScope ["_law_book_here", "_law_kept", "_law_stands", "_law_word", "_law_found"] ["_law_book_here", "_law_kept", "_law_stands"] (defScope s_same) := ⟨rfl, rfl, rfl, by decide +kernel, rfl, by decide +kernel, by decide +kernel⟩
theorem ok_same {ea : Nat → Addr} {C : Addr} (D : DefAt K mg "_law_same" s_same) (T : Bn mg) (BA : BookAt K C) (C_whole : Callee P w K mg base "_law_whole" 1 ["_law_found"] sp_whole) (C_texts : Callee P w K mg base "_law_texts" 2 ["_law_found", "_law_due_here"] (sp_texts K)) (C_numbers : Callee P w K mg base "_law_numbers" 2 ["_law_found", "_law_due_here"] (sp_numbers K))
    (M_names : Method P w K mg base C "names" CX0 1 ["self"] (sp_names C)) (M_deeds : Method P w K mg base C "deeds" CX0 1 ["self"] (sp_deeds C)) (M_teeth : Method P w K mg base C "teeth" (CX1 P w) 2 ["self", "name"] (sp_bteeth ea C)) : Callee P w K mg base "_law_same" 3 ["_law_book_here", "_law_kept", "_law_stands"] (sp_same C) := by
  refine D.callee sc_same (fun _ _ _ _ _ _ us hl => match us, hl with | [_, _, _], _ => rfl) (fun vs H Q E h => ?_) (fun f cdv A outer s H vs Q E hr h => ?_)
  · obtain ⟨b, l, G, cs, past, a, cs', n, rfl, _⟩ := h
    rfl
  · obtain ⟨b, l, G, cs, past, a, cs', n, rfl, B, kp, nG, hp, hg, rfl, q⟩ := h
    have S := sc_same
    have hu := hu_of hr
    have B_cls := BA.cls
    obtain ⟨kvs, ha, kr⟩ := id kp
    obtain ⟨dx, d, hb, gd, kvs0, hd, kr0⟩ := id B.ins
    obtain ⟨nab, nal⟩ := B.ne ha
    have hcl : cs'.length ≤ 8 := by
      have := hp.length_eq
      rw [List.length_map, List.length_map] at this
      have := B.good.len
      omega
    refine ⟨_, pss_cons (ps_if (pt_not (pt_val (pe_fn C_texts (hr.mono (by decide)) rfl (pa_cons (pe_mt0 (pv 0) B_cls M_names (hr.mono (by decide)) (by first | exact pass0 | exact pass_try | exact pass1 | exact pass_E0)) (pa_cons (pe_callB (call_sortedD rfl) rfl T.n_sorted boot_sorted (pa_cons (pv 1) pa_nil)) pa_nil)))))
      (pss_one (ps_ret (pe_bl)))
      (pss_nil))
    (pss_cons (ps_forD PassesOwn.never rfl (pv 1) (pg_name (i := 3) S.nd rfl (Or.inl rfl))
      (pss_one (ps_if (pt_not (pt_val (pe_fn C_numbers (hr.mono (by decide)) rfl (pa_cons (pe_mt (pv 0) B_cls M_teeth (hr.mono (by decide)) (by first | exact pass0 | exact pass_try | exact pass1 | exact pass_E0) (pa_cons (pv 3) pa_nil)) (pa_cons (pe_dget hu (pv 1) (pv 3) (fun _ _ => rfl)) pa_nil)))))
        (pss_one (ps_ret (pe_bl)))
        (pss_nil))))
    (pss_cons (ps_set (i := 4) S.nd rfl (Or.inl rfl) (pe_mt0 (pv 0) B_cls M_deeds (hr.mono (by decide)) (by first | exact pass0 | exact pass_try | exact pass1 | exact pass_E0)))
    (pss_one (ps_ret (pe_and (pe_fn C_whole (hr.mono (by decide)) rfl (pa_cons (pv 4) pa_nil)) (pe_one (pe_cmpR op_eq (pv 4) (pv 2) (nomark _)))))))), ?_⟩
    refine ⟨_, rfl, b, dx, _, rfl, hb, rfl, b, l, G, cs, past, rfl, B, fun p nm np hnp hns => ?_⟩
    have s1 : Same H (upd H p (.lst (nm.map V.str))) := Same.new np
    refine ⟨_, rfl, a, kvs, cs'.map (·.1), rfl, .inl (s1 _ _ ha), kr.keys, by rw [List.length_map]; omega, fun p2 nm2 np2 hnp2 hns2 => ?_⟩
    have s2 : Same (upd H p (.lst (nm.map V.str))) (upd (upd H p (.lst (nm.map V.str))) p2 (.lst (nm2.map V.str))) := Same.new np2
    have e : nm = nm2 := strs_same (hnp.trans ((hnp2.trans hp).symm)) hns hns2
    refine ⟨p, p2, nm, nm2, rfl, s2 _ _ upd_same, SqL.of upd_same, ?_, ?_⟩
    · have := hnp2.length_eq
      rw [List.length_map] at this
      omega
    rw [decide_eq_true e]
    refine ⟨_, rfl, iteF ?_⟩
    have s12 := s1.trans s2
    generalize upd (upd H p (.lst (nm.map V.str))) p2 (.lst (nm2.map V.str)) = H2 at s12
    have B2 := B.same s12
    have ha2 := s12 _ _ ha
    refine ⟨a, kvs, rfl, ha2, fun o => ?_⟩
    have hlk : kvs.length = cs'.length := kr.length
    refine for_g (gives_dict a o kvs) (fun i σ Hx => Hx a = some (.frz o (.dK kvs)) ∧ Same (upd H2 a (.frz o (.dK kvs))) Hx ∧ ∃ x3, σ = [some (.ref b), some (.ref a), some (.int (past.length : Int)), x3, none]) ⟨upd_same, Same.refl _, _, rfl⟩ (fun _ _ _ _ h => h.1) ?_ ?_
    · rintro i x σ Hx hx ⟨hf, sx, x3, rfl⟩
      rw [List.getElem?_map] at hx
      cases hk : kvs[i]? with
      | none => rw [hk] at hx; cases hx
      | some kv =>
        rw [hk] at hx
        cases hx
        have hi : i < kvs.length := (List.getElem?_eq_some_iff.mp hk).1
        have hic : i < cs'.length := by omega
        -- the comb there
        have hm : kvs.map (·.1) = (cs'.map (·.1)).map Sum.inr := kr.keys
        have e1 : kv.1 = Sum.inr cs'[i].1 := by
          have := congrArg (fun l => l[i]?) hm
          simp only [List.getElem?_map, hk, List.getElem?_eq_getElem hic, Option.map_some] at this
          exact Option.some.inj this
        have hgi := hg cs'[i] (List.getElem_mem hic)
        have Bx : Bk C G Hx b l cs past := (B2.upd nG nab nal).same sx
        obtain ⟨dxx, ddx, hbx, _⟩ := id Bx.ins
        refine ⟨_, rfl, b, dxx, _, rfl, hbx, rfl, _, rfl, b, l, G, cs, past, cs'[i].1, ?_, Bx, ?_⟩
        · show V.ref b :: ([kV kv.1] ++ []) = _
          rw [e1]
          rfl
        rw [hgi]
        intro p3 np3
        have s3 : Same Hx (upd Hx p3 (.lst (cs'[i].2.map V.int))) := Same.new np3
        have kr2 : KvR (fun _ => True) (upd Hx p3 (.lst (cs'[i].2.map V.int))) kvs cs' := by
          have z := kr.mono (H' := H2) (fun a o _ e => s12 a o e) (fun _ g => g)
          have z2 := z.updD (o := .frz o (.dK kvs)) ha2
          exact z2.mono (fun a o _ e => s3 _ _ (sx a o e)) fun _ g => g
        rcases kr2.val (x := cs'[i].1) with ⟨e2, _⟩ | ⟨ts, t, e2, e3, e4, _⟩
        · exact absurd (List.mem_map.mpr ⟨_, List.getElem_mem hic, rfl⟩) (get_none.mp e2)
        · have ets : ts = cs'[i].2 := by
            have := hg _ (get_mem e2)
            rw [hgi] at this
            exact (Option.some.inj this).symm
          subst ets
          refine ⟨_, rfl, _, rfl, a, V.ref t, rfl, ?_, p3, t, cs'[i].2, cs'[i].2, rfl, upd_same, SqL.of e4, ?_, ?_⟩
          · show DGet _ a (kV kv.1) _
            rw [e1, ← e3]
            exact .inl ⟨kvs, Sum.inr cs'[i].1, .inr ⟨o, s3 _ _ hf⟩, rfl, rfl⟩
          · have := gt_len (B.good.ok _ (get_mem hgi)).2
            have e : (cs'[i].1, cs'[i].2).2.length ≤ 8 := this
            exact Nat.le_trans e (by decide)
          rw [decide_eq_true rfl]
          exact ⟨_, rfl, iteF ⟨s3 _ _ hf, sx.trans s3, _, rfl⟩⟩
    · rintro σ Hx ⟨hf, sx, x3, rfl⟩
      refine ⟨hf, ?_⟩
      have sE : Same H (upd Hx a (.dK kvs)) := fun c oc ec => by
        by_cases z : c = a
        · subst z
          rw [upd_same]
          rw [ha] at ec
          exact ec
        · rw [upd_ne z]
          refine sx c oc ?_
          rw [upd_ne z]
          exact s12 _ _ ec
      have BE := B.same sE
      obtain ⟨dxx, ddx, hbx, _⟩ := id BE.ins
      refine ⟨_, rfl, b, dxx, _, rfl, hbx, rfl, b, l, G, cs, past, rfl, BE, ?_⟩
      refine ⟨_, rfl, _, rfl, _, rfl, iteT ?_⟩
      refine ⟨_, rfl, _, rfl, rfl, ?_⟩
      rw [decide_eq_true rfl]
      exact q _ sE
theorem ej_re {K : PySem.W.Frag} {ea : Nat → Addr} {ce : Value} {j : Nat} (e : EJ K ea ce j) {Q : VK} {H : Hp} (q : ∀ p l H2, Same H H2 → H l = none → H2 l = some (.lst [.str (errName j)]) → H2 p = none → Q (.ref p) (upd H2 p (.tup [.str (Str.ofString "refused"), .ref l]))) : refuT K ea ce Q (.ref (ea j)) none H := ⟨ea j, j, rfl, e.kf, e.ex, q⟩
/-- what a try tells: the number, or which refusal -/
def Ans (H : Hp) (fd : Addr) : Except Nat Int → Prop
  | .ok n => H fd = some (.tup [.str (Str.ofString "told"), .int n])
  | .error j => ∃ le, H fd = some (.tup [.str (Str.ofString "refused"), .ref le]) ∧ H le = some (.lst [.str (errName j)])
theorem Ans.same {H H' : Hp} {fd : Addr} {r : Except Nat Int} (a : Ans H fd r) (s : Same H H') : Ans H' fd r := by
  cases r with
  | ok n => exact s _ _ a
  | error j => obtain ⟨le, h1, h2⟩ := a; exact ⟨le, s _ _ h1, s _ _ h2⟩
theorem ej_ans {K : PySem.W.Frag} {ea : Nat → Addr} {ce : Value} {j : Nat} (e : EJ K ea ce j) {Q : VK} {H : Hp} (q : ∀ fd H2, Same H H2 → Ans H2 fd (.error j) → Q (.ref fd) H2) : refuT K ea ce Q (.ref (ea j)) none H :=
  ej_re e fun p le H2 s nle hle np => q p _ (s.put (s.free np)) ⟨le, upd_same, by rw [upd_ne (ne_of_none hle np)]; exact hle⟩
def csOf (r : Except Nat Combs) (cs : Combs) : Combs := match r with
  | .ok c => c
  | .error _ => cs
def pastOf (r : Except Nat Combs) (cs : Combs) (past : List Combs) : List Combs := match r with
  | .ok _ => past ++ [cs]
  | .error _ => past
def ansOf (r : Except Nat Combs) (past : List Combs) : Except Nat Int := match r with
  | .ok _ => .ok ((past.length : Int) + 1)
  | .error j => .error j
theorem deed_try {K : PySem.W.Frag} {ea : Nat → Addr} {ce : Value} {C b l : Addr} {G : Addr → Prop} {H : Hp} {cs : Combs} {past : List Combs} {Q : VK} {r : Except Nat Combs} (B : Bk C G H b l cs past) (ej : ∀ j, r = .error j → EJ K ea ce j)
    (q : ∀ Hx fd Gx, Mv b l G Gx H Hx → Bk C Gx Hx b l (csOf r cs) (pastOf r cs past) → Ans Hx fd (ansOf r past) → Q (.ref fd) Hx) : Deed ea C G H b l cs past (tellT Q) (refuT K ea ce Q) r := by
  cases r with
  | error j =>
    intro H' s
    exact ej_ans (ej j rfl) fun fd H2 s2 a => q H2 fd G (Mv.ofSame (s.trans s2)) (B.same (s.trans s2)) a
  | ok cs' =>
    intro H' G' m B'
    refine ⟨bigr rfl, fun p np => ?_⟩
    have s2 : Same H' (upd H' p (.tup [.str (Str.ofString "told"), .int ((past.length : Int) + 1)])) := Same.new np
    exact q _ p G' (m.trans (Mv.ofSame s2)) (B'.same s2) upd_same
def spLaw (K : PySem.W.Frag) : Sp := fun vs H Q _ => ∃ (a : Addr) (ns : List Int), vs = [.ref a] ∧ SqL K H a (ns.map V.int) ∧ ns.length ≤ 63 ∧ ∀ H', Q (.bl true) H'
--CUT--
theorem ok10 : PyData.strOk (Str.ofString "NothingDone") = true := by decide +kernel
theorem errs_ok : ∀ j, j < 15 → PyData.strOk (errName j) = true ∧ errName j ≠ Str.ofString "" := by decide +kernel
theorem p5 : (0 : Int) < 5 := by decide
theorem p3 : (0 : Int) < 3 := by decide
theorem p11 : (0 : Int) < 11 := by decide
theorem p15 : (0 : Int) < 15 := by decide
theorem p10 : (0 : Int) < 10 := by decide
theorem p16 : (0 : Int) < 16 := by decide
theorem p20 : (0 : Int) < 20 := by decide
theorem do_err {K : PySem.W.Frag} {H : Hp} {d : Int} {x : Str} {mv : V} {cs : Combs} {past : List Combs} {j : Nat} (h : DoOk K H d x mv cs past (.error j)) : j ≤ 9 := by
  rcases h with ⟨_, a, ts, _, _, _, e⟩ | ⟨_, _, e⟩ | ⟨_, t, _, e⟩ | ⟨_, t, _, e⟩
  · unfold putD at e
    split at e
    · cases e; decide
    · split at e
      · cases e; decide
      · split at e
        · cases e; decide
        · split at e
          · cases e; decide
          · have := full_err e.symm; omega
  · unfold dropD at e
    split at e
    · cases e; decide
    · have := full_err e.symm; omega
  · unfold addD at e
    split at e
    · cases e; decide
    · split at e
      · cases e; decide
      · split at e
        · cases e; decide
        · have := full_err e.symm; omega
  · unfold offD at e
    split at e
    · cases e; decide
    · split at e
      · cases e; decide
      · split at e
        · cases e; decide
        · split at e
          · cases e; decide
          · have := full_err e.symm; omega
theorem put_name {cs cs' : Combs} {past : List Combs} {x : Str} {ts : List Int} (h : putD cs past x ts = .ok cs') : isName x = true := by
  unfold putD at h
  split at h
  · cases h
  · rename_i h1
    simpa using h1
theorem do_names {K : PySem.W.Frag} {H : Hp} {d : Int} {x : Str} {mv : V} {cs cs' : Combs} {past : List Combs} {N : List Str} (h : DoOk K H d x mv cs past (.ok cs')) (hN : ∀ c ∈ cs, c.1 ∈ N) (hx : isName x = true → x ∈ N) : ∀ c ∈ cs', c.1 ∈ N := by
  have up : ∀ us, x ∈ N → ∀ c ∈ cPut cs x us, c.1 ∈ N := fun us hxN c hc => by
    rcases put_names c hc with z | z
    · rw [z]; exact hxN
    · obtain ⟨c', hc', e⟩ := List.mem_map.mp z
      rw [← e]; exact hN c' hc'
  rcases h with ⟨_, a, ts, _, _, _, e⟩ | ⟨_, _, e⟩ | ⟨_, t, _, e⟩ | ⟨_, t, _, e⟩
  · obtain ⟨_, rfl⟩ := put_okG e.symm
    exact up _ (hx (put_name e.symm))
  · obtain ⟨_, rfl⟩ := drop_okG e.symm
    exact fun c hc => hN c (List.mem_filter.mp hc).1
  · obtain ⟨ts, hg, _, _, rfl⟩ := add_okG e.symm
    exact up _ (hN _ (get_mem hg))
  · obtain ⟨ts, hg, _, rfl⟩ := off_okG e.symm
    exact up _ (hN _ (get_mem hg))
theorem few4 {cs : Combs} (g : Good cs) (h : ∀ c ∈ cs, c.1 ∈ N4) : cs.length ≤ 4 := by
  have := nodup_le (l := cs.map (·.1)) (m := N4) g.nd fun y hy => by
    obtain ⟨c, hc, rfl⟩ := List.mem_map.mp hy
    exact h c hc
  rwa [List.length_map] at this
theorem ab_put : cPut (cPut [] sAB [0, 3]) sB [0] = abC [0] := by
  have e1 : cPut [] sAB [0, 3] = [(sAB, [0, 3])] := rfl
  rw [e1, put_new (by rw [get_cons, if_neg ab_ne]; rfl)]
  rfl
theorem same_far {b l pl : Addr} {H Hx Hy : Hp} (s : Same H Hx) (f : Far b l pl Hx Hy) (n1 : H b = none) (n2 : H l = none) (n3 : H pl = none) : Same H Hy := fun a o e => f a o (s a o e) (ne_of_none e n1) (ne_of_none e n2) (ne_of_none e n3)
def pickS (l : List Str) (i : Int) : Str := l.getD i.toNat (Str.ofString "")
theorem pick_at {l : List Str} {i : Int} (h0 : 0 ≤ i) (h1 : i < (l.length : Int)) : atI (l.map V.str) i = some (V.str (pickS l i)) ∧ pickS l i ∈ l := by
  have hi : i.toNat < l.length := by omega
  have e : pickS l i = l[i.toNat] := by unfold pickS; rw [List.getD_eq_getElem?_getD, List.getElem?_eq_getElem hi]; rfl
  exact ⟨atI_int h0 (by rw [List.getElem?_map, List.getElem?_eq_getElem hi, e]; rfl), by rw [e]; exact List.getElem_mem hi⟩
theorem words_ok : ∀ x ∈ ([sAB, sB, Str.ofString "c", Str.ofString "AB", Str.ofString "dd"] : List Str), x.length ≤ 1000 ∧ (isName x = true → x ∈ N4) := by decide +kernel
theorem sc_law : FnScope ["_law_script", "_law_book_here", "_law_past", "_law_k", "_law_cell", "_law_deed", "_law_word", "_law_more", "_law_found", "_law_due_here"] ["_law_script"] (defScope s_law) := ⟨rfl, rfl, rfl, by decide +kernel, rfl, by decide +kernel, by decide +kernel⟩
theorem ok_law {ea : Nat → Addr} {ce : Value} {C : Addr} (D : DefAt K mg "law" s_law) (T : Bn mg) (V_MOST_DEEDS : ∃ t, mg "MOST_DEEDS" = some (.int 300 t)) (EE : ∀ j, j ≤ 10 → EJ K ea ce j) (C_at : Callee P w K mg base "_law_at" 1 ["_law_script", "_law_k"] (sp_at K)) (C_book : Callee P w K mg base "_law_book" 4 ["_law_kinds"] (sp_mkbook C)) (C_filled : Callee P w K mg base "_law_filled" 4 ["_law_book_here", "_law_past", "_law_many"] (sp_filled8 C))
    (C_do : Callee P w K mg base "_law_do" 4 ["_law_book_here", "_law_deed", "_law_word", "_law_more"] (sp_do8 K ea ce C)) (C_due : Callee P w K mg base "_law_due" 2 ["_law_kept", "_law_stands", "_law_deed", "_law_word", "_law_more"] (sp_due8 K)) (C_done : Callee P w K mg base "_law_done" 1 ["_law_kept", "_law_deed", "_law_word", "_law_more"] (sp_done K))
    (C_told : Callee P w K mg base "_law_told" 2 ["_law_found", "_law_due_here"] (sp_told K)) (C_refused : Callee P w K mg base "_law_refused" 2 ["_law_found", "_law_due_here"] (sp_refused K)) (C_same : Callee P w K mg base "_law_same" 3 ["_law_book_here", "_law_kept", "_law_stands"] (sp_same C)) : Callee P w K mg base "law" 5 ["_law_script"] (spLaw K) := by
  refine D.calleeQ sc_law (fun _ _ _ _ _ _ us hl => match us, hl with | [_], _ => rfl) (fun vs H Q E h => ?_) (fun f cdv A outer s H vs Q E hr h => ?_)
  · obtain ⟨a, ns, rfl, _⟩ := h
    rfl
  · obtain ⟨a, ns, rfl, hS, hl, q⟩ := h
    have S := sc_law
    have hu := hu_of hr
    refine ⟨_, qss_cons (qs_set (i := 1) S.nd rfl (Or.inl rfl) (qe (pe_fn C_book (hr.mono (by decide)) rfl (pa_cons ((qe_lst (qa_cons (qe_lst (qa_cons (qe (pe_str)) (qa_cons (qe_lst (qa_cons (qe (pe_int)) (qa_cons (qe (pe_int)) (qa_nil)))) (qa_nil)))) (qa_cons (qe_lst (qa_cons (qe (pe_str)) (qa_cons (qe_lst (qa_cons (qe (pe_int)) (qa_nil))) (qa_nil)))) (qa_nil)))).h) pa_nil))))
    (qss_cons (qs_set (i := 2) S.nd rfl (Or.inl rfl) (qe_lst (qa_cons (qe (pe_dnewK)) (qa_cons (qe_disp (qp_cons (qe (pe_str)) (qe_lst (qa_cons (qe (pe_int)) (qa_cons (qe (pe_int)) (qa_nil)))) (qp_nil)) rfl rfl (by simp) (by decide)) (qa_cons (qe_disp (qp_cons (qe (pe_str)) (qe_lst (qa_cons (qe (pe_int)) (qa_cons (qe (pe_int)) (qa_nil)))) (qp_cons (qe (pe_str)) (qe_lst (qa_cons (qe (pe_int)) (qa_nil))) (qp_nil))) rfl rfl (by simp) (by decide)) (qa_nil))))))
    (qss_cons (qs (ps_expr (pe_fn C_filled (hr.mono (by decide)) rfl (pa_cons (pv 1) (pa_cons (pv 2) (pa_cons (pe_op op_sub (pe_int) (pe_op op_mod (pe_fn C_at (hr.mono (by decide)) rfl (pa_cons (pv 0) (pa_cons (pe_int) pa_nil))) (pe_int))) pa_nil))))))
    (qss_cons (qs (ps_for PassesOwn.never rfl (pi_range2 rfl T.n_range (pa_cons (pe_int) (pa_cons (pe_int) pa_nil))) (pg_name (i := 3) S.nd rfl (Or.inl rfl))
      (pss_cons (ps_set (i := 4) S.nd rfl (Or.inl rfl) (pe_fn C_at (hr.mono (by decide)) rfl (pa_cons (pv 0) (pa_cons (pv 3) pa_nil))))
      (pss_cons (ps_set (i := 5) S.nd rfl (Or.inl rfl) (pe_op op_mod (pv 4) (pe_int)))
      (pss_cons (ps_set (i := 6) S.nd rfl (Or.inl rfl) (pe_ix ix_list ((qe_lst (qa_cons (qe (pe_str)) (qa_cons (qe (pe_str)) (qa_cons (qe (pe_str)) (qa_nil))))).h) (pe_op op_mod (pe_op op_fdiv (pv 4) (pe_int)) (pe_int)) (fun _ _ => rfl)))
      (pss_cons (ps_set (i := 7) S.nd rfl (Or.inl rfl) (pe_op op_sub (pe_op op_mod (pe_op op_fdiv (pv 4) (pe_int)) (pe_int)) (pe_int)))
      (pss_cut (ps_if (pt_cmpR op_eq (pv 5) (pe_int) (nomark _))
        (pss_cons (ps_set (i := 6) S.nd rfl (Or.inl rfl) (pe_ix ix_list ((qe_lst (qa_cons (qe (pe_str)) (qa_cons (qe (pe_str)) (qa_cons (qe (pe_str)) (qa_cons (qe (pe_str)) (qa_nil)))))).h) (pe_op op_mod (pe_op op_fdiv (pv 4) (pe_int)) (pe_int)) (fun _ _ => rfl)))
        (pss_one (ps_set (i := 7) S.nd rfl (Or.inl rfl) (pe_ix ix_list ((qe_lst (qa_cons (qe_lst (qa_cons (qe (pe_int)) (qa_cons (qe (pe_int)) (qa_nil)))) (qa_cons (qe_lst (qa_cons (qe (pe_int)) (qa_cons (qe (pe_int)) (qa_nil)))) (qa_nil)))).h) (pe_op op_mod (pe_op op_fdiv (pv 4) (pe_int)) (pe_int)) (fun _ _ => rfl)))))
        (pss_nil))
      (pss_one (ps_if (pt_cmpR op_eq (pv 5) (pe_int) (nomark _))
        (pss_cons (ps_set (i := 8) S.nd rfl (Or.inl rfl) (pe_fn C_do (hr.mono (by decide)) rfl (pa_cons (pv 1) (pa_cons (pv 5) (pa_cons (pv 6) (pa_cons (pv 7) pa_nil))))))
        (pss_cons (ps_expr (pe_bm0 PySem.F.plainAttrs_list PySem.F.slot_list_pop PySem.F.type_list_pop mt_pop (pv 2)))
        (pss_one (ps_if (pt_not (pt_val (pe_fn C_told (hr.mono (by decide)) rfl (pa_cons (pv 8) (pa_cons (pe_op op_sub (pe_callB call_len_seq rfl T.n_len PySem.boot_len (pa_cons (pv 2) pa_nil)) (pe_int)) pa_nil)))))
          (pss_one (ps_ret (pe_bl)))
          (pss_nil)))))
        (pss_cons (ps_set (i := 9) S.nd rfl (Or.inl rfl) (pe_fn C_due (hr.mono (by decide)) rfl (pa_cons (pe_ix ix_list (pv 2) (pe_un un_neg (pe_int)) (fun _ _ => rfl)) (pa_cons (pe_op op_sub (pe_callB call_len_seq rfl T.n_len PySem.boot_len (pa_cons (pv 2) pa_nil)) (pe_int)) (pa_cons (pv 5) (pa_cons (pv 6) (pa_cons (pv 7) pa_nil)))))))
        (pss_cons (ps_set (i := 8) S.nd rfl (Or.inl rfl) (pe_fn C_do (hr.mono (by decide)) rfl (pa_cons (pv 1) (pa_cons (pv 5) (pa_cons (pv 6) (pa_cons (pv 7) pa_nil))))))
        (pss_cons (ps_if (PW.pt (pw_and (pt_cmpR op_ne (pv 9) (pe_str) (nomark _)) (pw_and1 (pt_not (pt_val (pe_fn C_refused (hr.mono (by decide)) rfl (pa_cons (pv 8) (pa_cons (pv 9) pa_nil))))))))
          (pss_one (ps_ret (pe_bl)))
          (pss_nil))
        (pss_one (ps_if (pt_cmpR op_eq (pv 9) (pe_str) (nomark _))
          (pss_cons (ps_expr (pe_bm PySem.F.plainAttrs_list PySem.F.slot_list_append PySem.F.type_list_append mt_append (pv 2) (pa_cons (pe_fn C_done (hr.mono (by decide)) rfl (pa_cons (pe_ix ix_list (pv 2) (pe_un un_neg (pe_int)) (fun _ _ => rfl)) (pa_cons (pv 5) (pa_cons (pv 6) (pa_cons (pv 7) pa_nil))))) pa_nil)))
          (pss_one (ps_if (pt_not (pt_val (pe_fn C_told (hr.mono (by decide)) rfl (pa_cons (pv 8) (pa_cons (pe_op op_sub (pe_callB call_len_seq rfl T.n_len PySem.boot_len (pa_cons (pv 2) pa_nil)) (pe_int)) pa_nil)))))
            (pss_one (ps_ret (pe_bl)))
            (pss_nil))))
          (pss_nil)))))))))))))))
    (qss_cons (qs (ps_if (PW.pt (pw_or (pt_not (pt_val (pe_callB (call_isT "int") rfl T.n_isinstance boot_isinstance (pa_cons (pe_gint rfl V_MOST_DEEDS) (pa_cons (pe_bltn (v := .ty "int") rfl T.n_int boot_int rfl) pa_nil))))) (pw_or1 (pt_cmpR op_ne (pe_gint rfl V_MOST_DEEDS) (pe_int) (nomark _)))))
      (pss_one (ps_ret (pe_bl)))
      (pss_nil)))
    (qss_cons (qs (ps_while PassesOwn.never (pt_cmpR op_gt (pe_callB call_len_seq rfl T.n_len PySem.boot_len (pa_cons (pv 2) pa_nil)) (pe_int) (nomark _))
      (pss_cut (ps_if (PW.pt (pw_and (pt_cmpR op_lt (pe_op op_mod (pe_callB call_len_seq rfl T.n_len PySem.boot_len (pa_cons (pv 2) pa_nil)) (pe_int)) (pe_int) (nomark _)) (pw_and1 (pt_not (pt_val (pe_fn C_same (hr.mono (by decide)) rfl (pa_cons (pv 1) (pa_cons (pe_ix ix_list (pv 2) (pe_un un_neg (pe_int)) (fun _ _ => rfl)) (pa_cons (pe_op op_sub (pe_callB call_len_seq rfl T.n_len PySem.boot_len (pa_cons (pv 2) pa_nil)) (pe_int)) pa_nil)))))))))
        (pss_one (ps_ret (pe_bl)))
        (pss_nil))
      (pss_cons (ps_expr (pe_bm0 PySem.F.plainAttrs_list PySem.F.slot_list_pop PySem.F.type_list_pop mt_pop (pv 2)))
      (pss_one (ps_if (pt_not (pt_val (pe_fn C_told (hr.mono (by decide)) rfl (pa_cons (pe_fn C_do (hr.mono (by decide)) rfl (pa_cons (pv 1) (pa_cons (pe_int) (pa_cons (pe_str) (pa_cons (pe_int) pa_nil))))) (pa_cons (pe_op op_sub (pe_callB call_len_seq rfl T.n_len PySem.boot_len (pa_cons (pv 2) pa_nil)) (pe_int)) pa_nil)))))
        (pss_one (ps_ret (pe_bl)))
        (pss_nil)))))))
    (qss_one (qs_ret (qe (pe_and (pe_fn C_same (hr.mono (by decide)) rfl (pa_cons (pv 1) (pa_cons (pe_dnewK) (pa_cons (pe_int) pa_nil)))) (pe_one (pe_fn C_refused (hr.mono (by decide)) rfl (pa_cons (pe_fn C_do (hr.mono (by decide)) rfl (pa_cons (pv 1) (pa_cons (pe_int) (pa_cons (pe_str) (pa_cons (pe_int) pa_nil))))) (pa_cons (pe_str) pa_nil))))))))))))), ?_⟩
    -- the book
    refine ⟨bigr rfl, fun t1 n1 => ⟨bigr rfl, fun q1 nq1 => ⟨bigr rfl, fun t2 n2 => ⟨bigr rfl, fun q2 nq2 => ⟨bigr rfl, fun pk npk => ?_⟩⟩⟩⟩⟩
    have sa := Same.new (o := .lst [V.int 0, V.int 3]) n1
    have sb := Same.new (o := .lst [V.str (Str.ofString "ab"), V.ref t1]) nq1
    have sc := Same.new (o := .lst [V.int 0]) n2
    have sd := Same.new (o := .lst [V.str (Str.ofString "b"), V.ref t2]) nq2
    have se := Same.new (o := .lst [V.ref q1, V.ref q2]) npk
    have ht1 := se _ _ (sd _ _ (sc _ _ (sb t1 _ (upd_same (H := H)))))
    have hq1 := se _ _ (sd _ _ (sc q1 _ upd_same))
    have ht2 := se _ _ (sd t2 _ upd_same)
    have hq2 := se q2 _ upd_same
    have hpk : (upd (upd (upd (upd (upd H t1 (.lst [V.int 0, V.int 3])) q1 (.lst [V.str (Str.ofString "ab"), V.ref t1])) t2 (.lst [V.int 0])) q2 (.lst [V.str (Str.ofString "b"), V.ref t2])) pk (.lst [V.ref q1, V.ref q2])) pk = some (.lst [V.ref q1, V.ref q2]) := upd_same
    have s1 : Same H (upd (upd (upd (upd (upd H t1 (.lst [V.int 0, V.int 3])) q1 (.lst [V.str (Str.ofString "ab"), V.ref t1])) t2 (.lst [V.int 0])) q2 (.lst [V.str (Str.ofString "b"), V.ref t2])) pk (.lst [V.ref q1, V.ref q2])) := sa.trans (sb.trans (sc.trans (sd.trans se)))
    have dr : Drawn (fun _ => True) (upd (upd (upd (upd (upd H t1 (.lst [V.int 0, V.int 3])) q1 (.lst [V.str (Str.ofString "ab"), V.ref t1])) t2 (.lst [V.int 0])) q2 (.lst [V.str (Str.ofString "b"), V.ref t2])) pk (.lst [V.ref q1, V.ref q2])) [V.ref q1, V.ref q2] (abC [0]) := by
      refine ⟨⟨⟨q1, t1, rfl, hq1, ht1, trivial, trivial⟩, ⟨q2, t2, rfl, hq2, ht2, trivial, trivial⟩, trivial⟩, ?_, ?_⟩
      · show [sAB, sB].Nodup
        simp [ab_ne]
      · intro k hk
        rcases List.mem_cons.mp hk with z | z
        · rw [z]; exact ⟨by decide +kernel, fun i => decide (i = 0 ∨ i = 3), by decide, by decide⟩
        · rw [List.mem_singleton.mp z]; exact ⟨by decide +kernel, fun i => decide (i = 0), by decide, by decide⟩
    generalize upd (upd (upd (upd (upd H t1 (.lst [V.int 0, V.int 3])) q1 (.lst [V.str (Str.ofString "ab"), V.ref t1])) t2 (.lst [V.int 0])) q2 (.lst [V.str (Str.ofString "b"), V.ref t2])) pk (.lst [V.ref q1, V.ref q2]) = H1 at hpk s1 dr
    clear ht1 hq1 ht2 hq2 sa sb sc sd se
    refine ⟨pk, _, abC [0], rfl, hpk, dr, by decide, fun b l G past H2 s2 nb nl nG B hpe => ?_⟩
    have hpe : past = [[], [(sAB, [0, 3])]] := hpe
    subst hpe
    have s02 := s1.trans s2
    -- past
    refine fun z0 nz0 => ?_
    have k1 : Same H2 (upd H2 z0 (.dK [])) := Same.new nz0
    have hz0 : upd H2 z0 (.dK []) z0 = some (.dK []) := upd_same
    generalize upd H2 z0 (.dK []) = K1 at k1 hz0
    refine fun z1 nz1 => ⟨bigr rfl, fun t3 n3 => ?_⟩
    have k2 : Same K1 (upd K1 z1 (.dK [])) := Same.new nz1
    have k3 : Same K1 (upd (upd K1 z1 (.dK [])) t3 (.lst [V.int 0, V.int 3])) := k2.put (k2.free n3)
    have hz13 : upd (upd K1 z1 (.dK [])) t3 (.lst [V.int 0, V.int 3]) z1 = some (.dK []) := Same.new n3 _ _ upd_same
    have ht3 : upd (upd K1 z1 (.dK [])) t3 (.lst [V.int 0, V.int 3]) t3 = some (.lst (([0, 3] : List Int).map V.int)) := upd_same
    have nt3 : K1 t3 = none := k2.free n3
    generalize upd (upd K1 z1 (.dK [])) t3 (.lst [V.int 0, V.int 3]) = K3 at k3 hz13 ht3
    refine ⟨hz13, [(Sum.inr sAB, V.ref t3)], rfl, (show 1 ≤ 15 by decide), ?_⟩
    have k4 : Same K1 (upd K3 z1 (.dK (mergeK [] [(Sum.inr sAB, V.ref t3)]))) := k3.put nz1
    have hz1 : upd K3 z1 (.dK (mergeK [] [(Sum.inr sAB, V.ref t3)])) z1 = some (.dK (putK [] (Sum.inr sAB) (V.ref t3))) := upd_same
    have ht34 : upd K3 z1 (.dK (mergeK [] [(Sum.inr sAB, V.ref t3)])) t3 = some (.lst (([0, 3] : List Int).map V.int)) := by rw [upd_ne (ne_of ht3 hz13 (by intro z; cases z))]; exact ht3
    generalize upd K3 z1 (.dK (mergeK [] [(Sum.inr sAB, V.ref t3)])) = K4 at k4 hz1 ht34
    refine fun z2 nz2 => ⟨bigr rfl, fun t4 n4 => ⟨bigr rfl, fun t5 n5 => ?_⟩⟩
    have k5 : Same K4 (upd K4 z2 (.dK [])) := Same.new nz2
    have k6 : Same K4 (upd (upd K4 z2 (.dK [])) t4 (.lst [V.int 0, V.int 3])) := k5.put (k5.free n4)
    have k7 : Same K4 (upd (upd (upd K4 z2 (.dK [])) t4 (.lst [V.int 0, V.int 3])) t5 (.lst [V.int 0])) := k6.put (k6.free n5)
    have nt4 : K4 t4 = none := k5.free n4
    have nt5 : K4 t5 = none := k6.free n5
    have hz27 : upd (upd (upd K4 z2 (.dK [])) t4 (.lst [V.int 0, V.int 3])) t5 (.lst [V.int 0]) z2 = some (.dK []) := Same.new n5 _ _ (Same.new n4 _ _ upd_same)
    have ht4 : upd (upd (upd K4 z2 (.dK [])) t4 (.lst [V.int 0, V.int 3])) t5 (.lst [V.int 0]) t4 = some (.lst (([0, 3] : List Int).map V.int)) := Same.new n5 _ _ upd_same
    have ht5 : upd (upd (upd K4 z2 (.dK [])) t4 (.lst [V.int 0, V.int 3])) t5 (.lst [V.int 0]) t5 = some (.lst (([0] : List Int).map V.int)) := upd_same
    generalize upd (upd (upd K4 z2 (.dK [])) t4 (.lst [V.int 0, V.int 3])) t5 (.lst [V.int 0]) = K7 at k7 hz27 ht4 ht5
    refine ⟨hz27, [(Sum.inr sAB, V.ref t4), (Sum.inr sB, V.ref t5)], rfl, (show 2 ≤ 15 by decide), ?_⟩
    have k8 : Same K4 (upd K7 z2 (.dK (mergeK [] [(Sum.inr sAB, V.ref t4), (Sum.inr sB, V.ref t5)]))) := k7.put nz2
    have hz2 : upd K7 z2 (.dK (mergeK [] [(Sum.inr sAB, V.ref t4), (Sum.inr sB, V.ref t5)])) z2 = some (.dK (putK (putK [] (Sum.inr sAB) (V.ref t4)) (Sum.inr sB) (V.ref t5))) := upd_same
    have ht48 : upd K7 z2 (.dK (mergeK [] [(Sum.inr sAB, V.ref t4), (Sum.inr sB, V.ref t5)])) t4 = some (.lst (([0, 3] : List Int).map V.int)) := by rw [upd_ne (ne_of ht4 hz27 (by intro z; cases z))]; exact ht4
    have ht58 : upd K7 z2 (.dK (mergeK [] [(Sum.inr sAB, V.ref t4), (Sum.inr sB, V.ref t5)])) t5 = some (.lst (([0] : List Int).map V.int)) := by rw [upd_ne (ne_of ht5 hz27 (by intro z; cases z))]; exact ht5
    generalize upd K7 z2 (.dK (mergeK [] [(Sum.inr sAB, V.ref t4), (Sum.inr sB, V.ref t5)])) = K8 at k8 hz2 ht48 ht58
    refine ⟨bigr rfl, fun pl npl => ?_⟩
    have k9 : Same K8 (upd K8 pl (.lst [V.ref z0, V.ref z1, V.ref z2])) := Same.new npl
    have hpl : upd K8 pl (.lst [V.ref z0, V.ref z1, V.ref z2]) pl = some (.lst [V.ref z0, V.ref z1, V.ref z2]) := upd_same
    have k48 := k8
    have k18 := k4.trans k8
    have k28 := k1.trans k18
    have npl2 : H2 pl = none := k28.free npl
    have ppl : H pl = none := s02.free npl2
    have pb : H b = none := s1.free nb
    have pll : H l = none := s1.free nl
    obtain ⟨lb, ll⟩ := B.liveB
    have Lt : ∀ t (o : HO), K8 t = some o → H2 t = none → t ≠ l ∧ t ≠ pl := fun t o e n => ⟨fun z => ll (by rw [← z]; exact n), fun z => by rw [z, npl] at e; cases e⟩
    have x0 : St7 C b l pl G (upd K8 pl (.lst [V.ref z0, V.ref z1, V.ref z2])) [V.ref z0, V.ref z1, V.ref z2] (abC [0]) [[], [(sAB, [0, 3])]] := by
      refine ⟨B.same (k28.trans k9), hpl, ⟨fun g => B.live pl g npl2, fun z => lb (by rw [← z]; exact npl2), fun z => ll (by rw [← z]; exact npl2)⟩, ?_⟩
      refine .cons ⟨z0, rfl, ⟨[], k9 _ _ (k18 _ _ hz0), .nil⟩, fun g => B.live z0 g nz0⟩ (.cons ⟨z1, rfl, ?_, fun g => B.live z1 g (k1.free nz1)⟩ (.cons ⟨z2, rfl, ?_, fun g => B.live z2 g ((k1.trans k4).free nz2)⟩ .nil))
      · refine ⟨_, k9 _ _ (k48 _ _ hz1), ?_⟩
        exact KvR.put (cs := []) (x := sAB) (ts := [0, 3]) .nil (k9 _ _ (k48 _ _ ht34)) (Lt t3 _ (k48 _ _ ht34) (k1.free nt3))
      · refine ⟨_, k9 _ _ hz2, ?_⟩
        rw [← ab_put]
        exact KvR.put (KvR.put (cs := []) (x := sAB) (ts := [0, 3]) .nil (k9 _ _ ht48) (Lt t4 _ ht48 ((k1.trans k4).free nt4))) (k9 _ _ ht58) (Lt t5 _ ht58 ((k1.trans k4).free nt5))
    have s09 : Same H (upd K8 pl (.lst [V.ref z0, V.ref z1, V.ref z2])) := s02.trans (k28.trans k9)
    generalize upd K8 pl (.lst [V.ref z0, V.ref z1, V.ref z2]) = H3 at x0 s09
    clear k9 hpl k48 k18 k28 k8 hz2 ht48 ht58 k4 hz1 ht34 k1 hz0 Lt lb ll B s02 dr hpk s1 k2 nt3 k3 hz13 ht3 k5 k6 k7 nt4 nt5 hz27 ht4 ht5
    -- filled
    have c0 := Int.emod_nonneg (ns.getD (Int.toNat 0) 0) (show (11 : Int) ≠ 0 by decide)
    have c1 := Int.emod_lt_of_pos (ns.getD (Int.toNat 0) 0) p11
    refine ⟨_, rfl, _, rfl, _, rfl, a, ns, 0, rfl, s09.seq hS, by decide, _, _, rfl, rfl, p11, _, _, rfl, rfl, b, l, pl, G, _, _, [0], _, rfl, x0, .inl rfl, ?_, ?_, ⟨nm_ab _, ?_, rfl⟩, fun H4 G4 ws4 past4 tb4 x4 htb4 hp4 far4 hnm4 => ?_⟩
    · show (2 : Int) ≤ 300 - ns.getD (Int.toNat 0) 0 % 11
      omega
    · show 300 - ns.getD (Int.toNat 0) 0 % 11 ≤ 300
      omega
    · intro p hp c hc
      rcases List.mem_cons.mp hp with z | z
      · rw [z] at hc; cases hc
      · rw [List.mem_singleton.mp z] at hc
        rw [List.mem_singleton.mp hc]
        decide +kernel
    have hp4 : (past4.length : Int) = 300 - ns.getD (Int.toNat 0) 0 % 11 := hp4
    have s4 := same_far s09 far4 pb pll ppl
    -- fourteen turns
    refine ⟨1, 15, rfl, ⟨by decide, by decide, by decide, by decide⟩, ?_⟩
    refine for_g (gives_range 1 ((15 : Int) - 1).toNat) (fun i σ Hx => Same H Hx ∧ ∃ G ws cs past x3 x4 x5 x6 x7 x8 x9, σ = [some (.ref a), some (.ref b), some (.ref pl), x3, x4, x5, x6, x7, x8, x9] ∧ St7 C b l pl G Hx ws cs past ∧ past.length ≤ 300 ∧ 290 ≤ past.length + i ∧ Nm cs past)
      ⟨s4, G4, ws4, abC tb4, past4, _, _, _, _, _, _, _, rfl, x4, by omega, by omega, hnm4⟩ (fun _ _ _ _ _ => trivial) ?_ ?_
    · rintro i y σ Hx hy ⟨sx, G, ws, cs, past, x3, x4', x5, x6, x7, x8, x9, rfl, xx, hp300, hp290, hN⟩
      obtain ⟨hi, rfl⟩ := range_int hy
      have hi14 : i < 14 := hi
      refine ⟨_, rfl, _, rfl, a, ns, _, rfl, sx.seq hS, ?_, ?_⟩
      · show (0 : Int) ≤ 1 + ((i : Nat) : Int)
        omega
      generalize ns.getD (1 + ((i : Nat) : Int)).toNat 0 = cell
      refine ⟨_, rfl, _, _, rfl, rfl, p5, ?_⟩
      have d0 := Int.emod_nonneg cell (show (5 : Int) ≠ 0 by decide)
      have d1 := Int.emod_lt_of_pos cell p5
      refine ⟨bigr rfl, fun e1 ne1 => ⟨_, rfl, _, _, rfl, rfl, ⟨p5, by decide⟩, _, _, rfl, rfl, p3, ?_⟩⟩
      obtain ⟨w1, w1m⟩ := pick_at (l := [sAB, sB, Str.ofString "c"]) (i := cell / 5 % 3) (Int.emod_nonneg _ (by decide)) (Int.emod_lt_of_pos _ p3)
      have se1 := Same.new (o := .lst [V.str (Str.ofString "ab"), V.str (Str.ofString "b"), V.str (Str.ofString "c")]) ne1
      refine ⟨e1, _, _, _, rfl, rfl, SqL.of upd_same, w1, ?_⟩
      refine ⟨_, rfl, _, _, rfl, rfl, ⟨p15, by decide⟩, _, _, rfl, rfl, p10, _, _, rfl, rfl, ?_⟩
      have xx1 := xx.same se1
      have sx1 := sx.trans se1
      generalize upd Hx e1 (.lst [V.str (Str.ofString "ab"), V.str (Str.ofString "b"), V.str (Str.ofString "c")]) = Hy at xx1 sx1
      clear xx sx se1 ne1
      -- the deed, the word and what goes with it
      refine ⟨fun σ Hz => Same H Hz ∧ St7 C b l pl G Hz ws cs past ∧ ∃ (x : Str) (mv : V) (d : Int), σ = [some (.ref a), some (.ref b), some (.ref pl), some (.int (1 + ((i : Nat) : Int))), some (.int cell), some (.int d), some (.str x), some mv, x8, x9] ∧ x.length ≤ 1000 ∧ (isName x = true → x ∈ N4) ∧ 0 ≤ d ∧ d ≤ 4 ∧
        (d = 0 → ∃ (ra : Addr) (ts : List Int), mv = .ref ra ∧ Hz ra = some (.lst (ts.map V.int)) ∧ ts.length ≤ 1000 ∧ ra ≠ b ∧ ra ≠ l) ∧ (0 < d → ∃ t : Int, mv = .int t), ?_, ?_⟩
      · refine ⟨_, rfl, rfl, _, rfl, ?_⟩
        by_cases h0 : cell % 5 = 0
        · rw [show decide (V.int (cell % 5) = V.int 0) = true by rw [dec_ii]; exact decide_eq_true h0]
          refine iteT ?_
          obtain ⟨w2, w2m⟩ := pick_at (l := [Str.ofString "c", sAB, Str.ofString "AB", Str.ofString "dd"]) (i := cell / 5 % 4) (Int.emod_nonneg _ (by decide)) (Int.emod_lt_of_pos _ p4)
          refine ⟨bigr rfl, fun e2 ne2 => ⟨_, rfl, _, _, rfl, rfl, ⟨p5, by decide⟩, _, _, rfl, rfl, p4, e2, _, _, _, rfl, rfl, SqL.of upd_same, w2, ?_⟩⟩
          have se2 := Same.new (o := .lst [V.str (Str.ofString "c"), V.str (Str.ofString "ab"), V.str (Str.ofString "AB"), V.str (Str.ofString "dd")]) ne2
          have xx2 := xx1.same se2
          have sx2 := sx1.trans se2
          generalize upd Hy e2 (.lst [V.str (Str.ofString "c"), V.str (Str.ofString "ab"), V.str (Str.ofString "AB"), V.str (Str.ofString "dd")]) = Hz at xx2 sx2
          refine ⟨bigr rfl, fun u1 nu1 => ⟨bigr rfl, fun u2 nu2 => ⟨bigr rfl, fun u3 nu3 => ?_⟩⟩⟩
          have su1 := Same.new (o := .lst [V.int 2, V.int 0]) nu1
          have su2 := Same.new (o := .lst [V.int 1, V.int 2]) nu2
          have su3 := Same.new (o := .lst [V.ref u1, V.ref u2]) nu3
          have hu1 := su3 _ _ (su2 u1 _ upd_same)
          have hu2 := su3 u2 _ upd_same
          have i0 := Int.emod_nonneg (cell / 20) (show (2 : Int) ≠ 0 by decide)
          have i1 := Int.emod_lt_of_pos (cell / 20) p2
          have hat : ∃ ra, atI [V.ref u1, V.ref u2] (cell / 20 % 2) = some (V.ref ra) ∧ (ra = u1 ∨ ra = u2) := by
            rcases (by omega : cell / 20 % 2 = 0 ∨ cell / 20 % 2 = 1) with h | h <;> rw [h]
            · exact ⟨u1, at0, .inl rfl⟩
            · exact ⟨u2, at1, .inr rfl⟩
          obtain ⟨ra, hra, hor⟩ := hat
          refine ⟨_, rfl, _, _, rfl, rfl, ⟨p20, by decide⟩, _, _, rfl, rfl, p2, u3, _, _, _, rfl, rfl, SqL.of upd_same, hra, ?_⟩
          have su := su1.trans (su2.trans su3)
          have hw := words_ok (pickS [Str.ofString "c", sAB, Str.ofString "AB", Str.ofString "dd"] (cell / 5 % 4)) (by
            simp only [List.mem_cons, List.not_mem_nil, or_false] at w2m ⊢
            rcases w2m with h | h | h | h <;> simp [h])
          refine ⟨sx2.trans su, xx2.same su, _, V.ref ra, cell % 5, rfl, hw.1, hw.2, d0, by omega, fun _ => ?_, fun h => by omega⟩
          obtain ⟨lb2, ll2⟩ := xx2.bk.liveB
          obtain ⟨lb3, ll3⟩ := (xx2.bk.same su1).liveB
          rcases hor with rfl | rfl
          · exact ⟨_, [2, 0], rfl, hu1, by decide, fun e => lb2 (by rw [← e]; exact nu1), fun e => ll2 (by rw [← e]; exact nu1)⟩
          · exact ⟨_, [1, 2], rfl, hu2, by decide, fun e => lb3 (by rw [← e]; exact nu2), fun e => ll3 (by rw [← e]; exact nu2)⟩
        · rw [dec_no h0]
          have hw := words_ok (pickS [sAB, sB, Str.ofString "c"] (cell / 5 % 3)) (by
            simp only [List.mem_cons, List.not_mem_nil, or_false] at w1m ⊢
            rcases w1m with h | h | h <;> simp [h])
          exact iteF ⟨sx1, xx1, _, _, cell % 5, rfl, hw.1, hw.2, d0, by omega, fun h => absurd h h0, fun _ => ⟨_, rfl⟩⟩
      clear xx1 sx1
      rintro σ Hz ⟨sz, xz, x, mv, d, rfl, hxl, hxN, hd0, hd4, hm0, hm1⟩
      have hlz := xz.len
      obtain ⟨dxz, ddz, hbz, _⟩ := id xz.bk.ins
      refine ⟨_, rfl, rfl, _, rfl, ?_⟩
      by_cases h4 : d = 4
      · -- undo
        subst h4
        rw [dec_yes]
        refine iteT ?_
        have hne : past ≠ [] := fun z => by rw [z] at hp290; simp at hp290; omega
        obtain ⟨ps, pp, rfl⟩ : ∃ ps p, past = ps ++ [p] := ⟨past.dropLast, past.getLast hne, (List.dropLast_concat_getLast _).symm⟩
        rw [List.length_append, List.length_singleton] at hp300 hp290 hlz
        refine ⟨_, rfl, _, rfl, _, rfl, _, rfl, b, l, G, cs, _, 4, x, mv, rfl, xz.bk, hxl, .inr ⟨rfl, .inr ⟨ps, pp, rfl, fun H5 m5 B5 => ⟨bigr rfl, fun fd nfd => ?_⟩⟩⟩⟩
        have s5 : Same H5 (upd H5 fd (.tup [.str (Str.ofString "told"), .int (ps.length : Int)])) := Same.new nfd
        have hfd : upd H5 fd (.tup [.str (Str.ofString "told"), .int (ps.length : Int)]) fd = some (.tup [.str (Str.ofString "told"), .int (ps.length : Int)]) := upd_same
        have hpl6 := s5 _ _ (m5.keep _ _ xz.hpl xz.npl.2.1 xz.npl.2.2)
        have B6 := B5.same s5
        have tr6 := (xz.tr.mv (fun t h => h.1) xz.bk m5).same s5
        have far6 := (Far.ofMv (pl := pl) m5).trans (Far.ofSame s5)
        generalize upd H5 fd (.tup [.str (Str.ofString "told"), .int (ps.length : Int)]) = H6 at hfd hpl6 B6 tr6 far6
        obtain ⟨ws', v, rfl, tr', _⟩ := trail_last tr6
        refine ⟨_, rfl, .inl ⟨rfl, _, SqL.of hpl6⟩, pl, _, v, rfl, rfl, hpl6, by simp, ?_⟩
        rw [List.dropLast_concat]
        have xx7 : St7 C b l pl G (upd H6 pl (.lst ws')) ws' pp ps := ⟨B6.upd xz.npl.1 xz.npl.2.1 xz.npl.2.2, upd_same, xz.npl, Trail.updL (o := .lst ws') (show Trail (fun t => t ≠ l ∧ t ≠ pl) G H6 ws' (ps ++ [pp]) from tr') (fun t h => h.2) hpl6⟩
        have hfd7 : upd H6 pl (.lst ws') fd = some (.tup [.str (Str.ofString "told"), .int (ps.length : Int)]) := by rw [upd_ne (ne_of hfd hpl6 (by intro z; cases z))]; exact hfd
        have s7 := same_far sz (far6.trans (Far.upd (o := .lst ws'))) pb pll ppl
        generalize upd H6 pl (.lst ws') = H7 at xx7 hfd7 s7
        have hlw := xx7.len
        have en : (ps.length : Int) = (ws'.length : Int) - 1 := by omega
        rw [en] at hfd7
        refine ⟨_, rfl, _, rfl, _, _, rfl, .inl (SqL.of xx7.hpl), _, _, rfl, rfl, fd, _, rfl, hfd7, _, rfl, iteF ?_⟩
        refine ⟨s7, G, ws', pp, ps, _, _, _, _, _, _, _, rfl, xx7, by omega, by omega, hN.back⟩
      · rw [dec_no h4]
        refine iteF ?_
        obtain ⟨z, hz, kz, nz⟩ := xz.last
        have hc4 := few4 xz.bk.good hN.1
        -- what is reckoned
        obtain ⟨r, hr⟩ : ∃ r, DoOk K Hz d x mv cs past r := by
          rcases (by omega : d = 0 ∨ d = 1 ∨ d = 2 ∨ d = 3) with h | h | h | h
          · obtain ⟨ra, ts, e, hra, htl, _⟩ := hm0 h
            exact ⟨_, .inl ⟨h, ra, ts, e, SqL.of hra, htl, rfl⟩⟩
          · exact ⟨_, .inr (.inl ⟨h, hm1 (by omega), rfl⟩)⟩
          · obtain ⟨t, e⟩ := hm1 (by omega)
            exact ⟨_, .inr (.inr (.inl ⟨h, t, e, rfl⟩))⟩
          · obtain ⟨t, e⟩ := hm1 (by omega)
            exact ⟨_, .inr (.inr (.inr ⟨h, t, e, rfl⟩))⟩
        have en : ((ws.length : Int) - 1) = (past.length : Int) := by omega
        refine ⟨_, rfl, _, rfl, _, _, _, _, rfl, rfl, SqL.of xz.hpl, hz, _, rfl, _, _, rfl, .inl (SqL.of xz.hpl), _, _, rfl, rfl, _, rfl, _, rfl, _, rfl, z, _, cs, past, d, x, mv, r, ?_, kz, xz.bk.good, by omega, hp300, hxl, hr, fun H5 s5 => ?_⟩
        · show [V.ref z, V.int ((ws.length : Int) - 1), V.int d, V.str x, mv] = _
          rw [en]
        have xz5 := xz.same s5
        have hr5 := hr.same s5
        obtain ⟨dx5, dd5, hb5, _⟩ := id xz5.bk.ins
        have sz5 := sz.trans s5
        refine ⟨_, rfl, _, rfl, _, rfl, _, rfl, b, l, G, cs, past, d, x, mv, rfl, xz5.bk, hxl, .inl ⟨r, hr5, deed_try xz5.bk (fun j ej => EE j (by rw [ej] at hr5; have := do_err hr5; omega)) fun H6 fd G6 m6 B6 an => ?_⟩⟩
        obtain ⟨hpl6, npl6, tr6⟩ := xz5.mv m6 B6
        have far6 := Far.ofMv (pl := pl) m6
        have s6 := same_far sz5 far6 pb pll ppl
        refine ⟨_, rfl, rfl, _, rfl, ?_⟩
        cases r with
        | error j =>
          have hj : j < 15 := by have := do_err hr; omega
          obtain ⟨le, hfd, hle⟩ := an
          have hne : (!decide (V.str (dueN (.error j)) = V.str (Str.ofString ""))) = true := by
            rw [decide_eq_false (fun z => (errs_ok j hj).2 (by injection z))]; rfl
          rw [hne]
          refine iteT ⟨_, rfl, _, rfl, fd, le, _, rfl, (errs_ok j hj).1, hfd, hle, fun H7 s7 => ⟨_, rfl, iteF ?_⟩⟩
          refine ⟨_, rfl, rfl, _, rfl, ?_⟩
          rw [show decide (V.str (dueN (.error j)) = V.str (Str.ofString "")) = false from decide_eq_false (fun z => (errs_ok j hj).2 (by injection z))]
          refine iteF ⟨s6.trans s7, G6, ws, cs, past, _, _, _, _, _, _, _, rfl, ?_, hp300, by omega, hN⟩
          exact (St7.mk B6 hpl6 npl6 tr6).same s7
        | ok cs' =>
          have heq : (!decide (V.str (dueN (.ok cs')) = V.str (Str.ofString ""))) = false := by rw [show decide (V.str (dueN (.ok cs')) = V.str (Str.ofString "")) = true from decide_eq_true rfl]; rfl
          rw [heq]
          refine iteF (iteF ?_)
          refine ⟨_, rfl, rfl, _, rfl, ?_⟩
          rw [show decide (V.str (dueN (.ok cs')) = V.str (Str.ofString "")) = true from decide_eq_true rfl]
          refine iteT ?_
          obtain ⟨z5, hz5, kz5, nz5⟩ := xz5.last
          have kz6 := kz5.mvL (fun t h => h.1) xz5.bk m6
          have hr6 : DoOk K H6 d x mv cs past (.ok cs') := by
            rcases hr5 with ⟨h0', ra, ts, e, hsq, htl, e2⟩ | h | h | h
            · obtain ⟨ra', ts', e', hra', htl', nrb, nrl⟩ := hm0 h0'
              rw [e] at e'
              cases e'
              refine .inl ⟨h0', ra, ts, e, ?_, htl, e2⟩
              have hra5 := s5 _ _ hra'
              rcases hsq with (hq | ⟨o, hq⟩) | hq
              · exact .inl (.inl (m6.keep _ _ hq nrb nrl))
              · rw [hra5] at hq; cases hq
              · exact .inr hq
            · exact .inr (.inl h)
            · exact .inr (.inr (.inl h))
            · exact .inr (.inr (.inr h))
          refine ⟨_, rfl, .inl ⟨rfl, _, SqL.of hpl6⟩, _, rfl, _, rfl, _, _, _, _, rfl, rfl, SqL.of hpl6, hz5, _, rfl, _, rfl, _, rfl, z5, _, cs, past, cs', d, x, mv, rfl, kz6, xz5.bk.good, hr6, fun t h => xz5.fresh (by
            cases e : H5 t with
            | none => rfl
            | some o => exact absurd h (m6.on t (by rw [e]; simp))), fun H7 m s7 nm km => ?_⟩
          have nGm : ¬ G6 m := fun g => B6.live m g nm
          obtain ⟨hpl7, x8'⟩ := xz5.snoc (m6.trans (Mv.ofSame s7)) (B6.same s7) km nGm
          refine ⟨pl, _, _, rfl, rfl, hpl7, ?_, ?_⟩
          · exact Nat.lt_of_lt_of_le (by omega : ws.length < 1000) sizeBig
          have an7 : H7 fd = some (.tup [.str (Str.ofString "told"), .int ((past.length : Int) + 1)]) := s7 _ _ an
          have hfd8 : upd H7 pl (.lst (ws ++ [V.ref m])) fd = some (.tup [.str (Str.ofString "told"), .int ((past.length : Int) + 1)]) := by
            rw [upd_ne (ne_of an7 hpl7 (by intro z; cases z))]; exact an7
          have s8 := same_far s6 ((Far.ofSame s7).trans (Far.upd (b := b) (l := l) (pl := pl) (o := .lst (ws ++ [V.ref m])))) pb pll ppl
          have hp301 : (past ++ [cs]).length ≤ 300 := x8'.bk.few
          generalize upd H7 pl (.lst (ws ++ [V.ref m])) = H8 at x8' hfd8 s8
          have en8 : (past.length : Int) + 1 = ((ws ++ [V.ref m]).length : Int) - 1 := by rw [List.length_append, List.length_singleton]; omega
          rw [en8] at hfd8
          refine ⟨_, rfl, _, rfl, _, _, rfl, .inl (SqL.of x8'.hpl), _, _, rfl, rfl, fd, _, rfl, hfd8, _, rfl, iteF ?_⟩
          refine ⟨s8, G6, _, cs', _, _, _, _, _, _, _, _, rfl, x8', hp301, ?_, hN.snoc (do_names hr hN.1 hxN)⟩
          rw [List.length_append]; omega
    rintro σ H5 ⟨s5, G5, ws5, cs5, past5, x3, x4', x5, x6, x7, x8, x9, rfl, xx5, hp5, _, hN5⟩
    refine ⟨_, _, true, rfl, .int 300, rfl, _, rfl, ?_⟩
    refine iteF ⟨rfl, _, rfl, iteF ?_⟩
    -- all taken back
    refine ⟨fun mm σ Hx => ∃ G vs cs past, σ = [some (.ref a), some (.ref b), some (.ref pl), x3, x4', x5, x6, x7, x8, x9] ∧ St7 C b l pl G Hx vs cs past ∧ mm = past.length ∧ past.length ≤ 300 ∧ Nm cs past, ⟨_, G5, ws5, cs5, past5, rfl, xx5, rfl, hp5, hN5⟩, ?_⟩
    rintro mm σ Hx ⟨G, vs, cs, past, rfl, xx, rfl, hp, hN⟩
    have hlv := xx.len
    refine ⟨_, rfl, _, _, rfl, .inl (SqL.of xx.hpl), _, _, rfl, rfl, _, rfl, ?_⟩
    refine ite2 (fun hc => ?_) (fun hc => ?_)
    · have hpos : 0 < past.length := by
        have : (1 : Int) < (vs.length : Int) := by simpa using hc
        omega
      obtain ⟨ps, pp, rfl⟩ : ∃ ps p, past = ps ++ [p] := ⟨past.dropLast, past.getLast (by intro z; rw [z] at hpos; simp at hpos), (List.dropLast_concat_getLast _).symm⟩
      refine ⟨fun σ Hx => ∃ G vs cs past, σ = [some (.ref a), some (.ref b), some (.ref pl), x3, x4', x5, x6, x7, x8, x9] ∧ St7 C b l pl G Hx vs cs past ∧ past.length = ps.length ∧ past.length ≤ 300 ∧ Nm cs past, fun σ' H' h => ?_, ?_⟩
      · obtain ⟨G, vs, cs, past, e, x, h1, h2, h3⟩ := h
        exact ⟨past.length, by rw [List.length_append, List.length_singleton]; omega, G, vs, cs, past, e, x, rfl, h2, h3⟩
      refine ⟨fun σ Hy => σ = [some (.ref a), some (.ref b), some (.ref pl), x3, x4', x5, x6, x7, x8, x9] ∧ St7 C b l pl G Hy vs cs (ps ++ [pp]), ?_, ?_⟩
      · refine ⟨_, rfl, _, _, rfl, .inl (SqL.of xx.hpl), _, _, rfl, rfl, p16, _, _, rfl, rfl, _, rfl, ?_⟩
        refine ite2 (fun _ => ?_) (fun _ => ?_)
        · obtain ⟨z, hz, kz, nz⟩ := xx.last
          refine ⟨_, rfl, _, rfl, _, rfl, _, _, _, _, rfl, rfl, SqL.of xx.hpl, hz, _, rfl, _, _, rfl, .inl (SqL.of xx.hpl), _, _, rfl, rfl, b, l, G, cs, ps ++ [pp], z, cs, _, rfl, xx.bk, kz.any, nz, List.Perm.refl _, fun c hc => get_self xx.bk.good hc, by omega, fun H7 s7 => ⟨_, rfl, iteF ⟨rfl, xx.same s7⟩⟩⟩
        · exact iteF ⟨rfl, xx⟩
      clear xx
      rintro σ Hy ⟨rfl, xx⟩
      rw [List.length_append, List.length_singleton] at hp hlv
      obtain ⟨vs', v, rfl, tr', _⟩ := trail_last xx.tr
      refine ⟨_, rfl, .inl ⟨rfl, _, SqL.of xx.hpl⟩, pl, _, v, rfl, rfl, xx.hpl, by simp, ?_⟩
      rw [List.dropLast_concat]
      have B8 : Bk C G (upd Hy pl (.lst vs')) b l cs (ps ++ [pp]) := xx.bk.upd xx.npl.1 xx.npl.2.1 xx.npl.2.2
      have tr8 := Trail.updL (o := .lst vs') (show Trail (fun t => t ≠ l ∧ t ≠ pl) G Hy vs' (ps ++ [pp]) from tr') (fun t h => h.2) xx.hpl
      have hpl8 : upd Hy pl (.lst vs') pl = some (.lst vs') := upd_same
      generalize upd Hy pl (.lst vs') = H8 at B8 tr8 hpl8
      have hlv' := Paired.length tr8
      rw [List.length_append, List.length_singleton] at hlv'
      refine ⟨_, rfl, b, l, G, cs, ps ++ [pp], 4, Str.ofString "", _, rfl, B8, by decide, .inr ⟨rfl, .inr ⟨ps, pp, rfl, fun H9 m9 B9 => ⟨bigr rfl, fun fd nfd => ?_⟩⟩⟩⟩
      have s9 : Same H9 (upd H9 fd (.tup [.str (Str.ofString "told"), .int (ps.length : Int)])) := Same.new nfd
      have hfd : upd H9 fd (.tup [.str (Str.ofString "told"), .int (ps.length : Int)]) fd = some (.tup [.str (Str.ofString "told"), .int (ps.length : Int)]) := upd_same
      have xx9 : St7 C b l pl G (upd H9 fd (.tup [.str (Str.ofString "told"), .int (ps.length : Int)])) vs' pp ps := ⟨B9.same s9, s9 _ _ (m9.keep _ _ hpl8 xx.npl.2.1 xx.npl.2.2), xx.npl, (tr8.mv (fun t h => h.1) B8 m9).same s9⟩
      generalize upd H9 fd (.tup [.str (Str.ofString "told"), .int (ps.length : Int)]) = H10 at hfd xx9
      have en : (ps.length : Int) = (vs'.length : Int) - 1 := by omega
      rw [en] at hfd
      refine ⟨_, rfl, _, _, rfl, .inl (SqL.of xx9.hpl), _, _, rfl, rfl, fd, _, rfl, hfd, _, rfl, iteF ?_⟩
      exact ⟨G, vs', pp, ps, rfl, xx9, rfl, by omega, hN.back⟩
    · have h0 : past = [] := by
        have : ¬ (1 : Int) < (vs.length : Int) := by simpa using hc
        exact List.eq_nil_of_length_eq_zero (by omega)
      subst h0
      have hcs := hN.nil
      subst hcs
      refine ⟨_, rfl, fun z nz => ?_⟩
      have s8 : Same Hx (upd Hx z (.dK [])) := Same.new nz
      refine ⟨b, l, G, [], [], z, [], 0, rfl, xx.bk.same s8, ⟨[], upd_same, .nil⟩, fun g => xx.bk.live z g nz, List.Perm.refl _, by simp, rfl, fun H9 s9 => ⟨_, rfl, iteT ?_⟩⟩
      have B9 := (xx.bk.same s8).same s9
      refine ⟨_, rfl, b, l, G, [], [], 4, Str.ofString "", _, rfl, B9, by decide, .inr ⟨rfl, .inl ⟨rfl, ej_ans (EE 10 (by decide)) fun fd H10 s10 an => ?_⟩⟩⟩
      obtain ⟨le, hfd, hle⟩ := an
      exact ⟨fd, le, _, rfl, ok10, hfd, hle, fun H11 s11 => q _⟩
end
/-! ### the top -/
theorem walk {l : PySem.W.OpenLaw} {q : Program} {loose : List Str} {XP : (Str → Option Value) → Heap → Prop} {YP : World → Heap → Prop} {d : DefRec} {K : Params → PySem.W.Frag} (hn : l.most = some 63) (hdf : d.params.defaults = [])
    (hY : ∀ (w : World) (h : Heap), YP w h → (K w.params).In h)
    (F : ∀ (w : World) (mg : Str → Option Value) (fa : Addr) (h : Heap), (K w.params).In h → h.Ns mainGlobals mg → mg d.name = some (.ref fa) →
      ∃ fd : FuncData, (∀ (s : Shared) (u : Value), BindsTo s fd ⟨[u], []⟩ [("_law_script", u)]) ∧ ∀ base : Heap, (K w.params).In base → base.Ns mainGlobals mg → FnOk l.prog w (K w.params) mg base CX0 5 fa fd ["_law_script"] (spLaw (K w.params))) :
    PySem.W.WalkO q loose XP YP l.row.toRowW d [] (fun f vs => PySem.call f vs) :=
  L2.walk_of (n := 63) (k := 5) (x := "_law_script") (CX := fun _ => CX0) (sp := fun w => spLaw (K w.params)) hn (by decide) hdf ⟨rfl, by decide, by decide⟩ hY F (fun _ _ a ns hl _ hS => ⟨a, ns, rfl, hS, hl, fun _ => rfl⟩) fun _ _ _ _ _ z => z
theorem all {l : PySem.W.OpenLaw} {w : World} {K : PySem.W.Frag} {h : Heap} {mg : Str → Option Value} {fa : Addr} (X : K.In h) (G : h.Ns mainGlobals mg) (hfa : mg "law" = some (.ref fa)) (T : Bn mg)
    (V_MOST_COMBS : ∃ t, mg "MOST_COMBS" = some (.int 8 t))
    (V_MOST_NAME : ∃ t, mg "MOST_NAME" = some (.int 6 t))
    (V_MOST_TOOTH : ∃ t, mg "MOST_TOOTH" = some (.int 7 t))
    (V_MOST_DEEDS : ∃ t, mg "MOST_DEEDS" = some (.int 300 t))
    {C ce a0 a1 a2 a3 a4 a5 a6 a7 a8 a9 a10 a11 a12 a13 a14 : Addr}
    (R0 : mg "BadName" = some (.ref a0))
    (R1 : mg "BadTeeth" = some (.ref a1))
    (R2 : mg "NameTaken" = some (.ref a2))
    (R3 : mg "BookFull" = some (.ref a3))
    (R4 : mg "NoComb" = some (.ref a4))
    (R5 : mg "BadTooth" = some (.ref a5))
    (R6 : mg "ToothThere" = some (.ref a6))
    (R7 : mg "FirstTooth" = some (.ref a7))
    (R8 : mg "ToothMissing" = some (.ref a8))
    (R9 : mg "DeedsFull" = some (.ref a9))
    (R10 : mg "NothingDone" = some (.ref a10))
    (R11 : mg "BadShape" = some (.ref a11))
    (R12 : mg "BadPlace" = some (.ref a12))
    (R13 : mg "BadLength" = some (.ref a13))
    (R14 : mg "NoFilling" = some (.ref a14))
    (RCE : mg "CombError" = some (.ref ce)) (HCHK : errChk K [a0, a1, a2, a3, a4, a5, a6, a7, a8, a9, a10, a11, a12, a13, a14] ce [0, 1, 2, 3, 4, 5, 6, 7, 8, 9, 10] = true)
    (INIT : InitAt K mg C "Book" "Book.__init__" s_Book___init__) (BCHK : bookChk K C = true)
    (N_put : MethAt K C "Book" "put" s_Book_put)
    (N_drop : MethAt K C "Book" "drop" s_Book_drop)
    (N_add_tooth : MethAt K C "Book" "add_tooth" s_Book_add_tooth)
    (N_take_off : MethAt K C "Book" "take_off" s_Book_take_off)
    (N_undo : MethAt K C "Book" "undo" s_Book_undo)
    (N_deeds : MethAt K C "Book" "deeds" s_Book_deeds)
    (N_names : MethAt K C "Book" "names" s_Book_names)
    (N_teeth : MethAt K C "Book" "teeth" s_Book_teeth)
    (N_check_comb : MethAt K C "Book" "check_comb" s_Book_check_comb)
    (N_set_comb : MethAt K C "Book" "set_comb" s_Book_set_comb)
    (N_do_deed : MethAt K C "Book" "do_deed" s_Book_do_deed)
    (D_check_tooth : DefAt K mg "check_tooth" s_check_tooth)
    (D_is_name : DefAt K mg "is_name" s_is_name)
    (D_is_small_letter : DefAt K mg "is_small_letter" s_is_small_letter)
    (D_are_teeth : DefAt K mg "are_teeth" s_are_teeth)
    (D_at : DefAt K mg "_law_at" s_at)
    (D_book : DefAt K mg "_law_book" s_book)
    (D_kind : DefAt K mg "_law_kind" s_kind)
    (D_whole : DefAt K mg "_law_whole" s_whole)
    (D_told : DefAt K mg "_law_told" s_told)
    (D_refused : DefAt K mg "_law_refused" s_refused)
    (D_numbers : DefAt K mg "_law_numbers" s_numbers)
    (D_texts : DefAt K mg "_law_texts" s_texts)
    (D_same : DefAt K mg "_law_same" s_same)
    (D_isname : DefAt K mg "_law_isname" s_isname)
    (D_isteeth : DefAt K mg "_law_isteeth" s_isteeth)
    (D_do : DefAt K mg "_law_do" s_do)
    (D_due : DefAt K mg "_law_due" s_due)
    (D_done : DefAt K mg "_law_done" s_done)
    (D_filled : DefAt K mg "_law_filled" s_filled)
    (D_law : DefAt K mg "law" s_law) :
    ∃ fd : FuncData, (∀ (s : Shared) (v : Value), BindsTo s fd ⟨[v], []⟩ [("_law_script", v)]) ∧ ∀ base : Heap, K.In base → base.Ns mainGlobals mg → FnOk l.prog w K mg base CX0 5 fa fd ["_law_script"] (spLaw K) := by
  have BA := book_of BCHK
  have E (j : Nat) (hj : j ∈ [0, 1, 2, 3, 4, 5, 6, 7, 8, 9, 10]) (h15 : j < 15) := ej_of HCHK hj h15
  have E4 := E 4 (by decide) (by decide)
  refine D_law.entry hfa (fun _ _ _ _ _ _ v => rfl) fun base => ?_
  have c_kind := ok_kind (P := l.prog) (w := w) (base := base) D_kind T (ea := fun i => [a0, a1, a2, a3, a4, a5, a6, a7, a8, a9, a10, a11, a12, a13, a14].getD i 0) ⟨R0, R1, R2, R3, R4, R5, R6, R7, R8, R9, R10, R11, R12, R13, R14⟩
  have m_check := ok_check (P := l.prog) (w := w) (base := base) (ea := fun i => [a0, a1, a2, a3, a4, a5, a6, a7, a8, a9, a10, a11, a12, a13, a14].getD i 0) N_check_comb T BA (E4.err R4)
  have m_do := ok_do (P := l.prog) (w := w) (base := base) (ea := fun i => [a0, a1, a2, a3, a4, a5, a6, a7, a8, a9, a10, a11, a12, a13, a14].getD i 0) N_do_deed T BA V_MOST_DEEDS ((E 9 (by decide) (by decide)).err R9)
  have m_set := ok_set (ea := fun i => [a0, a1, a2, a3, a4, a5, a6, a7, a8, a9, a10, a11, a12, a13, a14].getD i 0) N_set_comb T BA m_do
  have m_put := ok_put (ea := fun i => [a0, a1, a2, a3, a4, a5, a6, a7, a8, a9, a10, a11, a12, a13, a14].getD i 0) N_put T BA V_MOST_COMBS ((E 0 (by decide) (by decide)).err R0) ((E 1 (by decide) (by decide)).err R1) ((E 2 (by decide) (by decide)).err R2) ((E 3 (by decide) (by decide)).err R3) (ok_name D_is_name T V_MOST_NAME (ok_small D_is_small_letter T)) (ok_teeth D_are_teeth T V_MOST_TOOTH) m_set
  have m_drop := ok_bdrop N_drop T BA m_check m_do
  have c_tooth := ok_ctooth (P := l.prog) (w := w) (base := base) (ea := fun i => [a0, a1, a2, a3, a4, a5, a6, a7, a8, a9, a10, a11, a12, a13, a14].getD i 0) D_check_tooth T V_MOST_TOOTH ((E 5 (by decide) (by decide)).err R5)
  have m_add := ok_badd (ea := fun i => [a0, a1, a2, a3, a4, a5, a6, a7, a8, a9, a10, a11, a12, a13, a14].getD i 0) N_add_tooth T BA ((E 6 (by decide) (by decide)).err R6) m_check c_tooth m_set
  have m_off := ok_boff (ea := fun i => [a0, a1, a2, a3, a4, a5, a6, a7, a8, a9, a10, a11, a12, a13, a14].getD i 0) N_take_off T BA ((E 7 (by decide) (by decide)).err R7) ((E 8 (by decide) (by decide)).err R8) m_check c_tooth m_set
  have m_undo := ok_bundo (P := l.prog) (w := w) (base := base) (ea := fun i => [a0, a1, a2, a3, a4, a5, a6, a7, a8, a9, a10, a11, a12, a13, a14].getD i 0) N_undo T BA ((E 10 (by decide) (by decide)).err R10)
  have m_deeds := ok_deeds (P := l.prog) (w := w) (base := base) N_deeds T BA
  have m_names := ok_names (P := l.prog) (w := w) (base := base) N_names T BA
  have m_teeth := ok_bteeth N_teeth T BA m_check
  have c_at := ok_at (P := l.prog) (w := w) (base := base) D_at T
  have c_whole := ok_whole (P := l.prog) (w := w) (base := base) D_whole T
  have c_mk : L2.Maker l.prog w K mg base "Book" C CX0 1 ["self"] (sp_init C) := by
    obtain ⟨fi, fdi, mk, fu⟩ := INIT.ex
    exact ⟨fi, fdi, mk, ok_init fu T BA, INIT.m, fu.binds (fun _ _ _ _ _ _ us hl => match us, hl with | [_], _ => rfl)⟩
  have c_done := ok_done (P := l.prog) (w := w) (base := base) D_done T
  exact ok_law (ea := fun i => [a0, a1, a2, a3, a4, a5, a6, a7, a8, a9, a10, a11, a12, a13, a14].getD i 0) D_law T V_MOST_DEEDS (fun j hj => E j (by simp only [List.mem_cons, List.not_mem_nil, or_false]; omega) (by omega)) c_at (ok_mkbook (ea := fun i => [a0, a1, a2, a3, a4, a5, a6, a7, a8, a9, a10, a11, a12, a13, a14].getD i 0) D_book T BA c_mk m_put) (ok_filled (ea := fun i => [a0, a1, a2, a3, a4, a5, a6, a7, a8, a9, a10, a11, a12, a13, a14].getD i 0) D_filled T BA c_done m_add m_off) (ok_do8 D_do T RCE BA.cls c_kind m_put m_drop m_add m_off m_undo) (ok_due D_due T (ok_isname D_isname T) (ok_isteeth D_isteeth T)) c_done
    (ok_told D_told T c_whole) (ok_refused D_refused T) (ok_same D_same T BA c_whole (ok_texts D_texts T) (ok_numbers D_numbers T c_whole) m_names m_deeds m_teeth)
end K08
--CUT2--
open PySem PySem.W PyProof.Rows
def PySem.W.Fast.tw4688015118908799035 : Unit := ()
def PySem.W.Fast.tw42183474253521775 : Unit := ()
def PySem.W.Fast.tw1736897128629651179 : Unit := ()
def PySem.W.Fast.tw3142777361741904145 : Unit := ()
def PySem.W.Fast.tw15336902402157488312 : Unit := ()
def PySem.W.Fast.tw5831854467385197347 : Unit := ()
def PySem.W.Fast.tw14799999325983650269 : Unit := ()
def PySem.W.Fast.tw12886899066984772872 : Unit := ()
def PySem.W.Fast.tw10077416129246652272 : Unit := ()
def PySem.W.Fast.tw12226786668674027167 : Unit := ()
def PySem.W.Fast.tw16327023835166058913 : Unit := ()
def PySem.W.Fast.tw7309298784512165894 : Unit := ()
def PySem.W.Fast.tw1571310644108246236 : Unit := ()
def PySem.W.Fast.tw6838630757064094958 : Unit := ()
def PySem.W.Fast.tw243258911264063423 : Unit := ()
def PySem.W.Fast.tw16245632508380927077 : Unit := ()
def PySem.W.Fast.tw10523153908629231058 : Unit := ()
def PySem.W.Fast.tw9722693022098692894 : Unit := ()
def PySem.W.Fast.tw2869992601109583920 : Unit := ()
def PySem.W.Fast.tw10517423104291851996 : Unit := ()
def PySem.W.Fast.tw5886472282488449201 : Unit := ()
def PySem.W.Fast.tw3438794617806747947 : Unit := ()
def PySem.W.Fast.tw17247419362743121560 : Unit := ()
def PySem.W.Fast.tw5367646486909213191 : Unit := ()
def PySem.W.Fast.tw15131813639640621462 : Unit := ()
def PySem.W.Fast.tw1358605914040929609 : Unit := ()
def PySem.W.Fast.tw18407470066951782658 : Unit := ()
def PySem.W.Fast.tw4681601545978150856 : Unit := ()
def PySem.W.Fast.tw112417757971199436 : Unit := ()
def PySem.W.Fast.tw6168269985092216977 : Unit := ()
def PySem.W.Fast.tw90766446582189947 : Unit := ()
def PySem.W.Fast.tw547117503315179490 : Unit := ()
def PySem.W.Fast.tw8622718348282551899 : Unit := ()
def PySem.W.Fast.tw9022540436703843450 : Unit := ()
def PySem.W.Fast.tw4024346983086609442 : Unit := ()
def PySem.W.Fast.tw2103046036771325392 : Unit := ()
def PySem.W.Fast.tw10699540063596333874 : Unit := ()
def PySem.W.Fast.tw16630867705559268097 : Unit := ()
def PySem.W.Fast.tw12458954170012281594 : Unit := ()
def PySem.W.Fast.tw9418051068578148400 : Unit := ()
def PySem.W.Fast.tw504674470149147355 : Unit := ()
def PySem.W.Fast.tw1020921677016453169 : Unit := ()
def PySem.W.Fast.tw6799661945653056599 : Unit := ()
def PySem.W.Fast.tw12943424123415506149 : Unit := ()
def PySem.W.Fast.tw8709623372022754290 : Unit := ()
def PySem.W.Fast.tw11431244918853271954 : Unit := ()
def PySem.W.Fast.tw6465904461294068465 : Unit := ()
def PySem.W.Fast.tw13713700026443576594 : Unit := ()
def PySem.W.Fast.tw9719139341514172468 : Unit := ()
def PySem.W.Fast.tw14132273371016326895 : Unit := ()
def PySem.W.Fast.tw13989621890991509989 : Unit := ()
def PySem.W.Fast.tw3373973652993289575 : Unit := ()
def PySem.W.Fast.tw15116415628503583129 : Unit := ()
def PySem.W.Fast.tw17518956682954305861 : Unit := ()
def PySem.W.Fast.tw2758191589516777877 : Unit := ()
def PySem.W.Fast.tw10684829543229844328 : Unit := ()
def PySem.W.Fast.tw2182630743484370604 : Unit := ()
def PySem.W.Fast.tw17772917209580806499 : Unit := ()
def PySem.W.Fast.tw16171573201510277849 : Unit := ()
def PySem.W.Fast.tw13648817859003761701 : Unit := ()
def PySem.W.Fast.tw9995865429331343429 : Unit := ()
def PySem.W.Fast.tw4104814276603534970 : Unit := ()
def PySem.W.Fast.tw8747491576513465545 : Unit := ()
def PySem.W.Fast.tw13995537708995262535 : Unit := ()
def PySem.W.Fast.tw18210606626638107145 : Unit := ()
def PySem.W.Fast.tw5273239973828060923 : Unit := ()
def PySem.W.Fast.tw9737557529944368864 : Unit := ()
def PySem.W.Fast.tw7798981040038121466 : Unit := ()
def PySem.W.Fast.tw1394060435026482739 : Unit := ()
def PySem.W.Fast.tw14339105532052787259 : Unit := ()
def PySem.W.Fast.tw11876798416307570745 : Unit := ()
def PySem.W.Fast.tw7773202783908633721 : Unit := ()
def PySem.W.Fast.tw5536789347655668691 : Unit := ()
def PySem.W.Fast.tw16576276315135381790 : Unit := ()
def PySem.W.Fast.tw11812543004230502050 : Unit := ()
def PySem.W.Fast.tw2199824660035256190 : Unit := ()
def PySem.W.Fast.tw3148051188464923899 : Unit := ()
def PySem.W.Fast.tw11298256596300865025 : Unit := ()
def PySem.W.Fast.tw17418155411419648165 : Unit := ()
def PySem.W.Fast.tw4796011966450278691 : Unit := ()
def PySem.W.Fast.tw9312521803675956605 : Unit := ()
def PySem.W.Fast.tw5067610926522301338 : Unit := ()
def PySem.W.Fast.tw17318148413447706596 : Unit := ()
def PySem.W.Fast.tw17915825786001203215 : Unit := ()
def PySem.W.Fast.tw18286817136432513612 : Unit := ()
def PySem.W.Fast.tw10276921321906977986 : Unit := ()
def PySem.W.Fast.tw7301745228089291353 : Unit := ()
def PySem.W.Fast.tw3316934929066420803 : Unit := ()
def PySem.W.Fast.tw7950626171284442723 : Unit := ()
def PySem.W.Fast.tw5727637353361713694 : Unit := ()
def PySem.W.Fast.tw7101010660707832459 : Unit := ()
def PySem.W.Fast.tw10740953638827305556 : Unit := ()
def PySem.W.Fast.tw4250725739636168023 : Unit := ()
def PySem.W.Fast.tw17980479657173122234 : Unit := ()
def PySem.W.Fast.tw707691666478494888 : Unit := ()
def PySem.W.Fast.tw13986598516571460888 : Unit := ()
def PySem.W.Fast.tw13777261360388946995 : Unit := ()
def PySem.W.Fast.tw132656869677694185 : Unit := ()
def PySem.W.Fast.tw8224825092424984319 : Unit := ()
def PySem.W.Fast.tw11816356065195293961 : Unit := ()
def PySem.W.Fast.tw17045689244236713357 : Unit := ()
def PySem.W.Fast.tw9136703088093147915 : Unit := ()
def PySem.W.Fast.tw2501122708185364801 : Unit := ()
def PySem.W.Fast.tw5812912615606187989 : Unit := ()
def PySem.W.Fast.tw14774042163765381641 : Unit := ()
def PySem.W.Fast.tw2071923483525954232 : Unit := ()
def PySem.W.Fast.tw3551173227162309964 : Unit := ()
def PySem.W.Fast.tw2902225703244401680 : Unit := ()
def PySem.W.Fast.tw183125102942975264 : Unit := ()
def PySem.W.Fast.tw12755064462445409433 : Unit := ()
def PySem.W.Fast.tw3706260143174127876 : Unit := ()
def PySem.W.Fast.tw8668691867064690608 : Unit := ()
def PySem.W.Fast.tw16597868806432240048 : Unit := ()
def PySem.W.Fast.tw8149858704100860615 : Unit := ()
def PySem.W.Fast.tw7042175633213625041 : Unit := ()
def PySem.W.Fast.tw17983808309711643048 : Unit := ()
def PySem.W.Fast.tw14790167075510193560 : Unit := ()
def PySem.W.Fast.tw7422942135563217706 : Unit := ()
def PySem.W.Fast.tw17365348065192735564 : Unit := ()
def PySem.W.Fast.tw13873695649835511387 : Unit := ()
def PySem.W.Fast.tw15201097985038825747 : Unit := ()
def PySem.W.Fast.tw3643027768032116672 : Unit := ()
def PySem.W.Fast.tw14926906225885187951 : Unit := ()
def PySem.W.Fast.tw10496633950256075641 : Unit := ()
def PySem.W.Fast.tw13487921687919679365 : Unit := ()
def PySem.W.Fast.tw12024633557349753245 : Unit := ()
def PySem.W.Fast.tw5478769085663792267 : Unit := ()
def PySem.W.Fast.tw5972132808453295243 : Unit := ()
def PySem.W.Fast.tw10316201090595025900 : Unit := ()
def PySem.W.Fast.tw7334141209737092694 : Unit := ()
def PySem.W.Fast.tw3819891942007963218 : Unit := ()
def PySem.W.Fast.tw16957934933658358207 : Unit := ()
def PySem.W.Fast.tw1520631584219177158 : Unit := ()
def PySem.W.Fast.tw8861057799095974771 : Unit := ()
def PySem.W.Fast.tw17834711721290064972 : Unit := ()
def PySem.W.Fast.tw12941425012685862147 : Unit := ()
def PySem.W.Fast.tw9762084007904917767 : Unit := ()
def PySem.W.Fast.tw8385928298536576224 : Unit := ()
def PySem.W.Fast.tw14733116337987463190 : Unit := ()
def PySem.W.Fast.tw2740405029654453761 : Unit := ()
def PySem.W.Fast.tw12140486885081219773 : Unit := ()
def PySem.W.Fast.tw11159517533761759089 : Unit := ()
def PySem.W.Fast.tw5306748276174419459 : Unit := ()
def PySem.W.Fast.tw13550073721112303667 : Unit := ()
def PySem.W.Fast.tw17963769630560188683 : Unit := ()
def PySem.W.Fast.tw7457578700883113339 : Unit := ()
def PySem.W.Fast.tw8435121598299104486 : Unit := ()
def PySem.W.Fast.tw8929532909014102595 : Unit := ()
def PySem.W.Fast.tw1963098323325726684 : Unit := ()
def PySem.W.Fast.tw11064068045313496657 : Unit := ()
def PySem.W.Fast.tw8066845190853241160 : Unit := ()
def PySem.W.Fast.tw11856213468696327270 : Unit := ()
def PySem.W.Fast.tw9173124040130542989 : Unit := ()
def PySem.W.Fast.tw2156195773254110110 : Unit := ()
def PySem.W.Fast.tw1351064784532149287 : Unit := ()
def PySem.W.Fast.tw229622836400179521 : Unit := ()
def PySem.W.Fast.tw16457287543906759362 : Unit := ()
def PySem.W.Fast.tw3059729834320735840 : Unit := ()
def PySem.W.Fast.tw4699408513982835372 : Unit := ()
def PySem.W.Fast.tw11542562787848996111 : Unit := ()
def PySem.W.Fast.tw18313913021510087904 : Unit := ()
def PySem.W.Fast.tw11572830281381422717 : Unit := ()
def PySem.W.Fast.tw16830110094590777128 : Unit := ()
def PySem.W.Fast.tw1723552300131978239 : Unit := ()
def PySem.W.Fast.tw10865019275556860118 : Unit := ()
def PySem.W.Fast.tw14899326255348243298 : Unit := ()
def PySem.W.Fast.tw1777858427714081626 : Unit := ()
def PySem.W.Fast.tw4910693730932449397 : Unit := ()
def PySem.W.Fast.tw5190231031665615996 : Unit := ()
def PySem.W.Fast.tw16480132455651891526 : Unit := ()
def PySem.W.Fast.tw14239952976313336501 : Unit := ()
def PySem.W.Fast.tw15650341335796757573 : Unit := ()
def PySem.W.Fast.tw13927289897940402409 : Unit := ()
def PySem.W.Fast.tw1701145872251924253 : Unit := ()
def PySem.W.Fast.tw15797832695841652983 : Unit := ()
def PySem.W.Fast.tw2998181989310542520 : Unit := ()
def PySem.W.Fast.tw7477820699348074740 : Unit := ()
def PySem.W.Fast.tw15625150096660580341 : Unit := ()
def PySem.W.Fast.tw1567197472404230536 : Unit := ()
def PySem.W.Fast.tw616185079580446201 : Unit := ()
def PySem.W.Fast.tw5701142284109529494 : Unit := ()
def PySem.W.Fast.tw17294640251780483481 : Unit := ()
def PySem.W.Fast.tw17428923577370382713 : Unit := ()
def PySem.W.Fast.tw1945831971694884823 : Unit := ()
def PySem.W.Fast.tw4144529082356826788 : Unit := ()
def PySem.W.Fast.tw4920216605698846940 : Unit := ()
def PySem.W.Fast.tw2624071363145385353 : Unit := ()
def PySem.W.Fast.tw4567919871595374735 : Unit := ()
def PySem.W.Fast.tw3367835118230244362 : Unit := ()
def PySem.W.Fast.tw17304615366263991812 : Unit := ()
def PySem.W.Fast.tw13788696301021546534 : Unit := ()
def PySem.W.Fast.tw17679853103266277713 : Unit := ()
def PySem.W.Fast.tw9225124560998493752 : Unit := ()
def PySem.W.Fast.tw5034125706904324812 : Unit := ()
def PySem.W.Fast.tw5750144240252250335 : Unit := ()
def PySem.W.Fast.tw5959001435830239702 : Unit := ()
def PySem.W.Fast.tw3082341700353438903 : Unit := ()
def PySem.W.Fast.tw12625439077820276111 : Unit := ()
def PySem.W.Fast.tw3074242784321714575 : Unit := ()
def PySem.W.Fast.tw1220676807565134986 : Unit := ()
def PySem.W.Fast.tw5985083892712642642 : Unit := ()
def PySem.W.Fast.tw17310028376619463662 : Unit := ()
def PySem.W.Fast.tw1536216576890126809 : Unit := ()
def PySem.W.Fast.tw1491546317101766878 : Unit := ()
def PySem.W.Fast.tw6802854988827060058 : Unit := ()
def PySem.W.Fast.tw3138920586707940612 : Unit := ()
def PySem.W.Fast.tw7393150317011978949 : Unit := ()
def PySem.W.Fast.tw16743751904494544875 : Unit := ()
def PySem.W.Fast.tw5285440974951665810 : Unit := ()
def PySem.W.Fast.tw7201627608221999917 : Unit := ()
def PySem.W.Fast.tw3486940708742094671 : Unit := ()
def PySem.W.Fast.tw1702369639251112195 : Unit := ()
def PySem.W.Fast.tw4357120808892564377 : Unit := ()
def PySem.W.Fast.tw6629631905488834872 : Unit := ()
def PySem.W.Fast.tw1636506965093470832 : Unit := ()
def PySem.W.Fast.tw6977797369639267240 : Unit := ()
def PySem.W.Fast.tw4811989939502056790 : Unit := ()
def PySem.W.Fast.tw12977175882623866242 : Unit := ()
def PySem.W.Fast.tw2905574363227841554 : Unit := ()
def PySem.W.Fast.tw15018245278795799619 : Unit := ()
def PySem.W.Fast.tw2954339949472834871 : Unit := ()
def PySem.W.Fast.tw10124311527293871857 : Unit := ()
def PySem.W.Fast.tw17902613526874207229 : Unit := ()
def PySem.W.Fast.tw13011306431108119852 : Unit := ()
def PySem.W.Fast.tw10595852682225911417 : Unit := ()
def PySem.W.Fast.tw6553533342109684727 : Unit := ()
def PySem.W.Fast.tw12307780855307035455 : Unit := ()
def PySem.W.Fast.tw2380390371843285421 : Unit := ()
def PySem.W.Fast.tw15640970544672171761 : Unit := ()
def PySem.W.Fast.tw10062263155147237665 : Unit := ()
def PySem.W.Fast.tw3545715184043827796 : Unit := ()
def PySem.W.Fast.tw17679905469184323837 : Unit := ()
def PySem.W.Fast.tw14386408730063161818 : Unit := ()
def PySem.W.Fast.tw6448501320578660696 : Unit := ()
def PySem.W.Fast.tw6250075379209810429 : Unit := ()
def PySem.W.Fast.tw18429990957945013023 : Unit := ()
def PySem.W.Fast.tw6320544621107201974 : Unit := ()
def PySem.W.Fast.tw6198189735428200324 : Unit := ()
def PySem.W.Fast.tw8604103075994526015 : Unit := ()
def PySem.W.Fast.tw11039113786389298069 : Unit := ()
def PySem.W.Fast.tw11581300235649447350 : Unit := ()
def PySem.W.Fast.tw3493176064199340646 : Unit := ()
def PySem.W.Fast.tw4601680855360342072 : Unit := ()
def PySem.W.Fast.tw15679151585517341244 : Unit := ()
def PySem.W.Fast.tw12887392185966127466 : Unit := ()
def PySem.W.Fast.tw10868722822792735988 : Unit := ()
def PySem.W.Fast.tw743995225437215396 : Unit := ()
def PySem.W.Fast.tw7319722788842845972 : Unit := ()
def PySem.W.Fast.tw11511272432542541472 : Unit := ()
def PySem.W.Fast.tw9815739122211834428 : Unit := ()
def PySem.W.Fast.tw1443963958138292242 : Unit := ()
def PySem.W.Fast.tw4191853149104141123 : Unit := ()
def PySem.W.Fast.tw17846358672261449468 : Unit := ()
def PySem.W.Fast.tw11541376711051261602 : Unit := ()
def PySem.W.Fast.tw10123993777211705965 : Unit := ()
def PySem.W.Fast.tw2644132730980209206 : Unit := ()
def PySem.W.Fast.tw7070968322729942350 : Unit := ()
def PySem.W.Fast.tw15165293401793640798 : Unit := ()
def PySem.W.Fast.tw4638032470216343858 : Unit := ()
def PySem.W.Fast.tw13647403737920630653 : Unit := ()
def PySem.W.Fast.tw9908607864169059551 : Unit := ()
def PySem.W.Fast.tw909495737804716413 : Unit := ()
def PySem.W.Fast.tw13446493912898326193 : Unit := ()
def PySem.W.Fast.tw17042635046464210119 : Unit := ()
def PySem.W.Fast.tw4915358908068811566 : Unit := ()
def PySem.W.Fast.tw6276851011430706040 : Unit := ()
def PySem.W.Fast.tw4311660035841810852 : Unit := ()
def PySem.W.Fast.tw1468380053522488663 : Unit := ()
def PySem.W.Fast.tw9160590310161540432 : Unit := ()
def PySem.W.Fast.tw9522660133886335670 : Unit := ()
def PySem.W.Fast.tw8662505515731551489 : Unit := ()
def PySem.W.Fast.tw7856581572060090313 : Unit := ()
def PySem.W.Fast.tw13230150505080580801 : Unit := ()
def PySem.W.Fast.tw14011491100559890150 : Unit := ()
def PySem.W.Fast.tw3591932102265360600 : Unit := ()
def PySem.W.Fast.tw7425870896071818463 : Unit := ()
def PySem.W.Fast.tw5749074275407294624 : Unit := ()
def PySem.W.Fast.tw9420576324122583902 : Unit := ()
def PySem.W.Fast.tw11533315344825045007 : Unit := ()
def PySem.W.Fast.tw6922079629087416680 : Unit := ()
def PySem.W.Fast.tw10263528671723527942 : Unit := ()
def PySem.W.Fast.tw16262311686980046053 : Unit := ()
def PySem.W.Fast.tw504014079043268469 : Unit := ()
def PySem.W.Fast.tw9659103823552333427 : Unit := ()
def PySem.W.Fast.tw1056538989834269868 : Unit := ()
def PySem.W.Fast.tw7409743636202532766 : Unit := ()
def PySem.W.Fast.tw6101090983208428261 : Unit := ()
def PySem.W.Fast.tw5887202860797385822 : Unit := ()
def PySem.W.Fast.tw18018750962413132107 : Unit := ()
def PySem.W.Fast.tw3114716805208890569 : Unit := ()
def PySem.W.Fast.tw907881631214265741 : Unit := ()
def PySem.W.Fast.tw5467370904208751509 : Unit := ()
def PySem.W.Fast.tw2571117114986847743 : Unit := ()
def PySem.W.Fast.tw13249624317936676042 : Unit := ()
def PySem.W.Fast.tw16149603178263199140 : Unit := ()
def PySem.W.Fast.tw10870858464343038252 : Unit := ()
def PySem.W.Fast.tw12923871204979247444 : Unit := ()
def PySem.W.Fast.tw12807909754985252683 : Unit := ()
def PySem.W.Fast.tw12127883078693232102 : Unit := ()
def PySem.W.Fast.tw13661862533511372303 : Unit := ()
def PySem.W.Fast.tw3488392121978364470 : Unit := ()
def PySem.W.Fast.tw2656592688347039621 : Unit := ()
def PySem.W.Fast.tw3955825953225547996 : Unit := ()
def PySem.W.Fast.tw12226084342138086181 : Unit := ()
def PySem.W.Fast.tw8007357398961250095 : Unit := ()
def PySem.W.Fast.tw10578383726465931279 : Unit := ()
def PySem.W.Fast.tw8319200577052518938 : Unit := ()
def PySem.W.Fast.tw11816427559751006068 : Unit := ()
def PySem.W.Fast.tw10863534467797783704 : Unit := ()
def PySem.W.Fast.tw11042754454146188230 : Unit := ()
def PySem.W.Fast.tw13222597931107073867 : Unit := ()
def PySem.W.Fast.tw17466627962977818478 : Unit := ()
def PySem.W.Fast.tw14891411053839408268 : Unit := ()
def PySem.W.Fast.tw11924803187133817543 : Unit := ()
def PySem.W.Fast.tw15972551615915792329 : Unit := ()
def PySem.W.Fast.tw3689441517477694984 : Unit := ()
def PySem.W.Fast.tw2682327518808369866 : Unit := ()
def PySem.W.Fast.tw17248569361231925834 : Unit := ()
def PySem.W.Fast.tw5151102185469342247 : Unit := ()
def PySem.W.Fast.tw8012952350356601468 : Unit := ()
def PySem.W.Fast.tw14652638468915241458 : Unit := ()
def PySem.W.Fast.tw6599195726026789882 : Unit := ()
def PySem.W.Fast.tw16773839285765310252 : Unit := ()
def PySem.W.Fast.tw17718564124468137223 : Unit := ()
def PySem.W.Fast.tw13153310107289806948 : Unit := ()
def PySem.W.Fast.tw16771863186079130486 : Unit := ()
def PySem.W.Fast.tw12755852180965540500 : Unit := ()
def PySem.W.Fast.tw12097324496667399393 : Unit := ()
def PySem.W.Fast.tw12259416685129415038 : Unit := ()
def PySem.W.Fast.tw8772236650075717520 : Unit := ()
def PySem.W.Fast.tw1809973131634695564 : Unit := ()
def PySem.W.Fast.tw1871973507711881332 : Unit := ()
def PySem.W.Fast.tw11834678314726364464 : Unit := ()
def PySem.W.Fast.tw4887628996625484981 : Unit := ()
def PySem.W.Fast.tw3138433795570076369 : Unit := ()
def PySem.W.Fast.tw7926985477897602803 : Unit := ()
def PySem.W.Fast.tw16849627455021906581 : Unit := ()
def PySem.W.Fast.tw4971384164915601875 : Unit := ()
def PySem.W.Fast.tw8906996390228565451 : Unit := ()
def PySem.W.Fast.tw5650727951244411777 : Unit := ()
def PySem.W.Fast.tw9102182451219250845 : Unit := ()
def PySem.W.Fast.tw12385753288882476930 : Unit := ()
def PySem.W.Fast.tw1214528525747038155 : Unit := ()
def PySem.W.Fast.tw17679141618668515361 : Unit := ()
def PySem.W.Fast.tw9437547179215495868 : Unit := ()
def PySem.W.Fast.tw6456667823161054096 : Unit := ()
def PySem.W.Fast.tw1717277852653015654 : Unit := ()
def PySem.W.Fast.tw8623454537947220852 : Unit := ()
def PySem.W.Fast.tw9598746119975341581 : Unit := ()
def PySem.W.Fast.tw18431868256664587064 : Unit := ()
def PySem.W.Fast.tw9286305371992112501 : Unit := ()
def PySem.W.Fast.tw8442187099809510637 : Unit := ()
def PySem.W.Fast.tw8751934572544431784 : Unit := ()
def PySem.W.Fast.tw13360581125064470914 : Unit := ()
def PySem.W.Fast.tw9287724164997244531 : Unit := ()
def PySem.W.Fast.tw4965820926114540972 : Unit := ()
def PySem.W.Fast.tw423287343016026569 : Unit := ()
def PySem.W.Fast.tw15882973852662726565 : Unit := ()
def PySem.W.Fast.tw14768174309646783555 : Unit := ()
def PySem.W.Fast.tw12512988887755564986 : Unit := ()
def PySem.W.Fast.tw13722184590332994203 : Unit := ()
def PySem.W.Fast.tw5070469231444168225 : Unit := ()
def PySem.W.Fast.tw1491008356536350723 : Unit := ()
def PySem.W.Fast.tw5242349426964396286 : Unit := ()
def PySem.W.Fast.tw5750249537297556303 : Unit := ()
def PySem.W.Fast.tw8418979181732917928 : Unit := ()
def PySem.W.Fast.tw16825867662341089708 : Unit := ()
def PySem.W.Fast.tw8658551647497438272 : Unit := ()
def PySem.W.Fast.tw6561805387056368484 : Unit := ()
def PySem.W.Fast.tw6748212044759514867 : Unit := ()
def PySem.W.Fast.tw2717000117781450010 : Unit := ()
def PySem.W.Fast.tw12385958524663485470 : Unit := ()
def PySem.W.Fast.tw11166123950784984844 : Unit := ()
def PySem.W.Fast.tw6401151804140097414 : Unit := ()
def PySem.W.Fast.tw7772857331279023765 : Unit := ()
def PySem.W.Fast.tw11603824490414382502 : Unit := ()
def PySem.W.Fast.tw9635163649354387432 : Unit := ()
def PySem.W.Fast.tw11443593930675280241 : Unit := ()
def PySem.W.Fast.tw1728107860624545771 : Unit := ()
def PySem.W.Fast.tw17902291966619529819 : Unit := ()
def PySem.W.Fast.tw8384159470540595603 : Unit := ()
def PySem.W.Fast.tw15627375613000646620 : Unit := ()
def PySem.W.Fast.tw14511246955026985723 : Unit := ()
def PySem.W.Fast.tw2201882488271389346 : Unit := ()
def PySem.W.Fast.tw11519345258597412788 : Unit := ()
def PySem.W.Fast.tw17100734281078427214 : Unit := ()
def PySem.W.Fast.tw10361270980701709570 : Unit := ()
def PySem.W.Fast.tw4847490814585146154 : Unit := ()
def PySem.W.Fast.tw10308674774542861714 : Unit := ()
def PySem.W.Fast.tw5478953208860388859 : Unit := ()
def PySem.W.Fast.tw6435187126072516156 : Unit := ()
def PySem.W.Fast.tw18331295633717345805 : Unit := ()
def PySem.W.Fast.tw9586282649564568230 : Unit := ()
def PySem.W.Fast.tw10626912024013109893 : Unit := ()
def PySem.W.Fast.tw9966672724333285938 : Unit := ()
def PySem.W.Fast.tw6273762508426753057 : Unit := ()
def PySem.W.Fast.tw7895256221690534561 : Unit := ()
def PySem.W.Fast.tw11192666557064754687 : Unit := ()
def PySem.W.Fast.tw10596203133608213013 : Unit := ()
def PySem.W.Fast.tw4516113711707644180 : Unit := ()
def PySem.W.Fast.tw3862536101778455284 : Unit := ()
def PySem.W.Fast.tw1407733334342456606 : Unit := ()
def PySem.W.Fast.tw8045120900026467564 : Unit := ()
def PySem.W.Fast.tw13343851440607570034 : Unit := ()
def PySem.W.Fast.tw280298088370356526 : Unit := ()
def PySem.W.Fast.tw4752406467877977806 : Unit := ()
def PySem.W.Fast.tw15410636382151081918 : Unit := ()
def PySem.W.Fast.tw14091420941638662268 : Unit := ()
def PySem.W.Fast.tw15586818174012212021 : Unit := ()
def PySem.W.Fast.tw3992487158514877388 : Unit := ()
def PySem.W.Fast.tw6973863389942411330 : Unit := ()
def PySem.W.Fast.tw10162059203214284195 : Unit := ()
def PySem.W.Fast.tw11709757904964817627 : Unit := ()
def PySem.W.Fast.tw6930239323222479634 : Unit := ()
def PySem.W.Fast.tw14034213032015300954 : Unit := ()
def PySem.W.Fast.tw14763019430978835809 : Unit := ()
def PySem.W.Fast.tw3833303761146023198 : Unit := ()
def PySem.W.Fast.tw11423991381240526593 : Unit := ()
def PySem.W.Fast.tw10376893724606330060 : Unit := ()
def PySem.W.Fast.tw7527039348033254374 : Unit := ()
def PySem.W.Fast.tw11776295600312114898 : Unit := ()
def PySem.W.Fast.tw8913555393130325138 : Unit := ()
def PySem.W.Fast.tw9896921350780835637 : Unit := ()
def PySem.W.Fast.tw5926908768925523396 : Unit := ()
def PySem.W.Fast.tw11720053167295357505 : Unit := ()
def PySem.W.Fast.tw10773441189409547322 : Unit := ()
def PySem.W.Fast.tw18377269408751630355 : Unit := ()
def PySem.W.Fast.tw9782273615122569108 : Unit := ()
def PySem.W.Fast.tw2420460537919043633 : Unit := ()
def PySem.W.Fast.tw3149139660735290381 : Unit := ()
def PySem.W.Fast.tw18123539872190349156 : Unit := ()
def PySem.W.Fast.tw15756027276981022201 : Unit := ()
def PySem.W.Fast.tw16215841118977110632 : Unit := ()
def PySem.W.Fast.tw16619394467819988549 : Unit := ()
def PySem.W.Fast.tw7867150246217450858 : Unit := ()
def PySem.W.Fast.tw15716100557557799545 : Unit := ()
def PySem.W.Fast.tw8159664847563514702 : Unit := ()
def PySem.W.Fast.tw6908750334667060251 : Unit := ()
def PySem.W.Fast.tw1034225620925651893 : Unit := ()
def PySem.W.Fast.tw2597231736607941412 : Unit := ()
def PySem.W.Fast.tw9741413577327121004 : Unit := ()
def PySem.W.Fast.tw2517832005215968546 : Unit := ()
def PySem.W.Fast.tw8613030570338021455 : Unit := ()
def PySem.W.Fast.tw15711230592928707982 : Unit := ()
def PySem.W.Fast.tw1302850306283330224 : Unit := ()
def PySem.W.Fast.tw2015411489449630761 : Unit := ()
def PySem.W.Fast.tw13225562435811040149 : Unit := ()
def PySem.W.Fast.tw14754394592445751951 : Unit := ()
def PySem.W.Fast.tw17520436114871090546 : Unit := ()
def PySem.W.Fast.tw16453848191855110842 : Unit := ()
def PySem.W.Fast.tw4651814384167341001 : Unit := ()
def PySem.W.Fast.tw15600413261987453510 : Unit := ()
def PySem.W.Fast.tw2662875761144596189 : Unit := ()
def PySem.W.Fast.tw13395471443453211002 : Unit := ()
def PySem.W.Fast.tw13920077161631567437 : Unit := ()
def PySem.W.Fast.tw8357118836328810987 : Unit := ()
def PySem.W.Fast.tw2469957610528348764 : Unit := ()
def PySem.W.Fast.tw3744116408091465896 : Unit := ()
def PySem.W.Fast.tw11175313566193449125 : Unit := ()
def PySem.W.Fast.tw6738251209308260092 : Unit := ()
def PySem.W.Fast.tw10214876782892796559 : Unit := ()
def PySem.W.Fast.tw16270556508013670877 : Unit := ()
def PySem.W.Fast.tw8165435069368705711 : Unit := ()
def PySem.W.Fast.tw17214488849945024275 : Unit := ()
def PySem.W.Fast.tw10674838596227830149 : Unit := ()
def PySem.W.Fast.tw5784267035423217839 : Unit := ()
def PySem.W.Fast.tw6635509492068683493 : Unit := ()
def PySem.W.Fast.tw14008807212165602983 : Unit := ()
def PySem.W.Fast.tw8847118732098784222 : Unit := ()
def PySem.W.Fast.tw10818432185550440085 : Unit := ()
def PySem.W.Fast.tw3399893069018369662 : Unit := ()
def PySem.W.Fast.tw3076413914031556306 : Unit := ()
def PySem.W.Fast.tw4389396159215855507 : Unit := ()
def PySem.W.Fast.tw3330254293487015885 : Unit := ()
def PySem.W.Fast.tw15137625702509427515 : Unit := ()
def PySem.W.Fast.tw14448559261107285272 : Unit := ()
def PySem.W.Fast.tw235003804348480432 : Unit := ()
def PySem.W.Fast.tw5556569260708530454 : Unit := ()
def PySem.W.Fast.tw1946079585746257953 : Unit := ()
def PySem.W.Fast.tw17101351225069590183 : Unit := ()
def PySem.W.Fast.tw15175118876128051590 : Unit := ()
def PySem.W.Fast.tw18095996194148975623 : Unit := ()
def PySem.W.Fast.tw17602626634604571241 : Unit := ()
def PySem.W.Fast.tw14081081205981714307 : Unit := ()
def PySem.W.Fast.tw783802100803430621 : Unit := ()
def PySem.W.Fast.tw16482683985125904373 : Unit := ()
def PySem.W.Fast.tw6998399768715972872 : Unit := ()
def PySem.W.Fast.tw7318297967477468644 : Unit := ()
def PySem.W.Fast.tw12723325715011050307 : Unit := ()
def PySem.W.Fast.tw379727264789982684 : Unit := ()
def PySem.W.Fast.tw4619448338294296146 : Unit := ()
def PySem.W.Fast.tw6889948021672185752 : Unit := ()
def PySem.W.Fast.tw9533278419662699894 : Unit := ()
def PySem.W.Fast.tw913747753046950972 : Unit := ()
def PySem.W.Fast.tw18394481189443406454 : Unit := ()
def PySem.W.Fast.tw17727134372823327681 : Unit := ()
def PySem.W.Fast.tw7082503322686885917 : Unit := ()
def PySem.W.Fast.tw8037192057675571003 : Unit := ()
def PySem.W.Fast.tw94878083802058198 : Unit := ()
def PySem.W.Fast.tw6100546329029682977 : Unit := ()
def PySem.W.Fast.tw6906667373172232963 : Unit := ()
def PySem.W.Fast.tw10817910719558406085 : Unit := ()
def PySem.W.Fast.tw899726657683741705 : Unit := ()
def PySem.W.Fast.tw16100792378016466490 : Unit := ()
def PySem.W.Fast.tw414931979013620500 : Unit := ()
def PySem.W.Fast.tw17912330338481569684 : Unit := ()
def PySem.W.Fast.tw7749855511008139496 : Unit := ()
def PySem.W.Fast.tw16466037524239703722 : Unit := ()
def PySem.W.Fast.tw8723178805320772500 : Unit := ()
def PySem.W.Fast.tw504472242393248955 : Unit := ()
def PySem.W.Fast.tw7160942717038247765 : Unit := ()
def PySem.W.Fast.tw9137746829577842926 : Unit := ()
def PySem.W.Fast.tw13749775887791661973 : Unit := ()
def PySem.W.Fast.tw4370318584704803227 : Unit := ()
def PySem.W.Fast.tw16022011765976168530 : Unit := ()
def PySem.W.Fast.tw8890098951274083198 : Unit := ()
def PySem.W.Fast.tw1880931226655622944 : Unit := ()
def PySem.W.Fast.tw10305337893325534137 : Unit := ()
def PySem.W.Fast.tw13824749465844141768 : Unit := ()
def PySem.W.Fast.tw9735354950200276145 : Unit := ()
def PySem.W.Fast.tw3581097127691614374 : Unit := ()
def PySem.W.Fast.tw16647496488517164578 : Unit := ()
def PySem.W.Fast.tw12579039777494769880 : Unit := ()
def PySem.W.Fast.tw17951637815152230005 : Unit := ()
def PySem.W.Fast.tw4047447004767224959 : Unit := ()
def PySem.W.Fast.tw15859175976328357194 : Unit := ()
def PySem.W.Fast.tw10848611201800684504 : Unit := ()
def PySem.W.Fast.tw3014580552933812747 : Unit := ()
def PySem.W.Fast.tw17544238012825461475 : Unit := ()
def PySem.W.Fast.tw5365730190087262987 : Unit := ()
def PySem.W.Fast.tw10548050384522618702 : Unit := ()
def PySem.W.Fast.tw354981162683011815 : Unit := ()
def PySem.W.Fast.tw13016372902090222295 : Unit := ()
def PySem.W.Fast.tw1563430013574741215 : Unit := ()
def PySem.W.Fast.tw819797226148776073 : Unit := ()
def PySem.W.Fast.tw5337195946778636801 : Unit := ()
def PySem.W.Fast.tw13734584042846691176 : Unit := ()
def PySem.W.Fast.tw18419705387846720605 : Unit := ()
def PySem.W.Fast.tw3915120952089486072 : Unit := ()
def PySem.W.Fast.tw9558940660983596895 : Unit := ()
def PySem.W.Fast.tw5819538210376146638 : Unit := ()
def PySem.W.Fast.tw12937699626424162128 : Unit := ()
def PySem.W.Fast.tw14129381688374516174 : Unit := ()
def PySem.W.Fast.tw16693355081264817673 : Unit := ()
def PySem.W.Fast.tw15784332553992173561 : Unit := ()
def PySem.W.Fast.tw7849392930914076474 : Unit := ()
def PySem.W.Fast.tw8224863966155891127 : Unit := ()
def PySem.W.Fast.tw3118298190650260498 : Unit := ()
def PySem.W.Fast.tw10969416582491679984 : Unit := ()
def PySem.W.Fast.tw3570661408645718629 : Unit := ()
def PySem.W.Fast.tw4880082165991268341 : Unit := ()
def PySem.W.Fast.tw14291056138873864757 : Unit := ()
def PySem.W.Fast.tw14267473131606359065 : Unit := ()
def PySem.W.Fast.tw7501194004569445403 : Unit := ()
def PySem.W.Fast.tw1648092598740183017 : Unit := ()
def PySem.W.Fast.tw6089717756530437342 : Unit := ()
def PySem.W.Fast.tw11582869378317143688 : Unit := ()
def PySem.W.Fast.tw7147708367938262336 : Unit := ()
def PySem.W.Fast.tw13689344945339788072 : Unit := ()
def PySem.W.Fast.tw9628772009904401897 : Unit := ()
def PySem.W.Fast.tw9065579103213214698 : Unit := ()
def PySem.W.Fast.tw16075799039807357491 : Unit := ()
def PySem.W.Fast.tw18167668587055543933 : Unit := ()
def PySem.W.Fast.tw15355849549788953110 : Unit := ()
def PySem.W.Fast.tw1106067407461208903 : Unit := ()
def PySem.W.Fast.tw7245929040679965605 : Unit := ()
def PySem.W.Fast.tw6019532520954828840 : Unit := ()
def PySem.W.Fast.tw17809455114632026543 : Unit := ()
def PySem.W.Fast.tw16240714489443677552 : Unit := ()
def PySem.W.Fast.tw7055912831885224195 : Unit := ()
def PySem.W.Fast.tw10013369610065810385 : Unit := ()
def PySem.W.Fast.tw3205763064851361782 : Unit := ()
def PySem.W.Fast.tw7709240258457685364 : Unit := ()
def PySem.W.Fast.tw3849184217739603560 : Unit := ()
def PySem.W.Fast.tw1408854707321879457 : Unit := ()
def PySem.W.Fast.tw12653188067031810751 : Unit := ()
def PySem.W.Fast.tw10345519246848953198 : Unit := ()
def PySem.W.Fast.tw1714830204755946746 : Unit := ()
def PySem.W.Fast.tw5213129235451316462 : Unit := ()
def PySem.W.Fast.tw12936741724376264773 : Unit := ()
def PySem.W.Fast.tw4340415199937424263 : Unit := ()
def PySem.W.Fast.tw18103453877638428424 : Unit := ()
def PySem.W.Fast.tw5924714581572565646 : Unit := ()
def PySem.W.Fast.tw4473988363600492622 : Unit := ()
def PySem.W.Fast.tw2880867750103977696 : Unit := ()
def PySem.W.Fast.tw10311802056396182789 : Unit := ()
def PySem.W.Fast.tw46136117193351924 : Unit := ()
def PySem.W.Fast.tw11305511938816562299 : Unit := ()
def PySem.W.Fast.tw6014210359117241962 : Unit := ()
def PySem.W.Fast.tw14661216296100181259 : Unit := ()
def PySem.W.Fast.tw7477958764313177463 : Unit := ()
def PySem.W.Fast.tw8212683870902489364 : Unit := ()
def PySem.W.Fast.tw10967816910140094245 : Unit := ()
def PySem.W.Fast.tw4893650503753530565 : Unit := ()
def PySem.W.Fast.tw14925904198739350376 : Unit := ()
def PySem.W.Fast.tw13332993802126228601 : Unit := ()
def PySem.W.Fast.tw12851202482228457581 : Unit := ()
def PySem.W.Fast.tw1911512565731282009 : Unit := ()
def PySem.W.Fast.tw3017778044161040097 : Unit := ()
def PySem.W.Fast.tw1362437212839501076 : Unit := ()
def PySem.W.Fast.tw1314877839271808561 : Unit := ()
def PySem.W.Fast.tw6493248321596986057 : Unit := ()
def PySem.W.Fast.tw2847732395425129503 : Unit := ()
def PySem.W.Fast.tw8619284776384668211 : Unit := ()
def PySem.W.Fast.tw2323036795472008607 : Unit := ()
def PySem.W.Fast.tw12235841172398637334 : Unit := ()
def PySem.W.Fast.tw1963181918199619002 : Unit := ()
def PySem.W.Fast.tw9806308285379252203 : Unit := ()
def PySem.W.Fast.tw10235298225782680068 : Unit := ()
def PySem.W.Fast.tw17843107643461020652 : Unit := ()
def PySem.W.Fast.tw7718919620091736789 : Unit := ()
def PySem.W.Fast.tw9140702713807089643 : Unit := ()
def PySem.W.Fast.tw5456871973542217229 : Unit := ()
def PySem.W.Fast.tw5997468788985797211 : Unit := ()
def PySem.W.Fast.tw13320348265423617202 : Unit := ()
def PySem.W.Fast.tw8439108113229356895 : Unit := ()
def PySem.W.Fast.tw18406580386013979639 : Unit := ()
def PySem.W.Fast.tw6345751767649093092 : Unit := ()
def PySem.W.Fast.tw1987240096416851729 : Unit := ()
def PySem.W.Fast.tw5281986421869977008 : Unit := ()
def PySem.W.Fast.tw1368502451279907240 : Unit := ()
def PySem.W.Fast.tw10193922001016944563 : Unit := ()
def PySem.W.Fast.tw11918052146731317330 : Unit := ()
def PySem.W.Fast.tw8832417014526812726 : Unit := ()
def PySem.W.Fast.tw3374103120695875807 : Unit := ()
def PySem.W.Fast.tw12908383095031292747 : Unit := ()
def PySem.W.Fast.tw984966881737210772 : Unit := ()
def PySem.W.Fast.tw4087638590891070985 : Unit := ()
def PySem.W.Fast.tw719910882518724103 : Unit := ()
def PySem.W.Fast.tw13883625814951984167 : Unit := ()
def PySem.W.Fast.tw10342265037068831177 : Unit := ()
def PySem.W.Fast.tw6748635925623072032 : Unit := ()
def PySem.W.Fast.tw6614200578523901964 : Unit := ()
def PySem.W.Fast.tw11796640764016245430 : Unit := ()
def PySem.W.Fast.tw17359586412973043566 : Unit := ()
def PySem.W.Fast.tw5392891945907950627 : Unit := ()
def PySem.W.Fast.tw11340634459942580158 : Unit := ()
def PySem.W.Fast.tw4386027406867169335 : Unit := ()
def PySem.W.Fast.tw17724306368002819069 : Unit := ()
def PySem.W.Fast.tw15576954907230823862 : Unit := ()
def PySem.W.Fast.tw10851210289169477270 : Unit := ()
def PySem.W.Fast.tw18368489776868137308 : Unit := ()
def PySem.W.Fast.tw4159948931253338372 : Unit := ()
def PySem.W.Fast.tw6930915866754646623 : Unit := ()
def PySem.W.Fast.tw7114657774614917979 : Unit := ()
def PySem.W.Fast.tw11978292388683959090 : Unit := ()
def PySem.W.Fast.tw16624713058357657474 : Unit := ()
def PySem.W.Fast.tw10314229643047084297 : Unit := ()
def PySem.W.Fast.tw3915324225993394334 : Unit := ()
def PySem.W.Fast.tw12313369167787688896 : Unit := ()
def PySem.W.Fast.tw1067224793516719246 : Unit := ()
def PySem.W.Fast.tw6594027721453043284 : Unit := ()
def PySem.W.Fast.tw3252260902340825347 : Unit := ()
def PySem.W.Fast.tw126793357644142137 : Unit := ()
def PySem.W.Fast.tw17625676915508902257 : Unit := ()
def PySem.W.Fast.tw381401482060689661 : Unit := ()
def PySem.W.Fast.tw662118695466688400 : Unit := ()
def PySem.W.Fast.tw14416871251669829501 : Unit := ()
def PySem.W.Fast.tw16358999964994754510 : Unit := ()
def PySem.W.Fast.tw11770256056725516144 : Unit := ()
def PySem.W.Fast.tw11767093900942031142 : Unit := ()
def PySem.W.Fast.tw4692765103333015077 : Unit := ()
def PySem.W.Fast.tw17416664683912054535 : Unit := ()
def PySem.W.Fast.tw9397030319016156360 : Unit := ()
def PySem.W.Fast.tw13587016027119984767 : Unit := ()
def PySem.W.Fast.tw3103549233113170954 : Unit := ()
def PySem.W.Fast.tw13247701529248711675 : Unit := ()
def PySem.W.Fast.tw2335126891561466462 : Unit := ()
def PySem.W.Fast.tw7489351486664424363 : Unit := ()
def PySem.W.Fast.tw4264137025616235414 : Unit := ()
def PySem.W.Fast.tw952366039013448174 : Unit := ()
def PySem.W.Fast.tw1946950919636531731 : Unit := ()
def PySem.W.Fast.tw9699780223893967486 : Unit := ()
def PySem.W.Fast.tw10576076567162646041 : Unit := ()
def PySem.W.Fast.tw15015430719701018547 : Unit := ()
def PySem.W.Fast.tw2649598430032501607 : Unit := ()
def PySem.W.Fast.tw16642857866163940483 : Unit := ()
def PySem.W.Fast.tw11426626534770591204 : Unit := ()
def PySem.W.Fast.tw9795826390818362760 : Unit := ()
def PySem.W.Fast.tw3688861355447669609 : Unit := ()
def PySem.W.Fast.tw4423388515287237680 : Unit := ()
def PySem.W.Fast.tw5397433707473302269 : Unit := ()
def PySem.W.Fast.tw14334948790779284191 : Unit := ()
def PySem.W.Fast.tw15211313943814834582 : Unit := ()
def PySem.W.Fast.tw11843776759575586327 : Unit := ()
def PySem.W.Fast.tw15721049551617262409 : Unit := ()
def PySem.W.Fast.tw8275185339081225622 : Unit := ()
def PySem.W.Fast.tw15259886026900988608 : Unit := ()
def PySem.W.Fast.tw12743811341855209895 : Unit := ()
def PySem.W.Fast.tw14108258627957436806 : Unit := ()
def PySem.W.Fast.tw4028315223738151710 : Unit := ()
def PySem.W.Fast.tw9447834136101709409 : Unit := ()
def PySem.W.Fast.tw11624353525744517256 : Unit := ()
def PySem.W.Fast.tw12236177437137748070 : Unit := ()
def PySem.W.Fast.tw15095958990428669508 : Unit := ()
def PySem.W.Fast.tw15500039883235566419 : Unit := ()
def PySem.W.Fast.tw6002154454220551167 : Unit := ()
def PySem.W.Fast.tw1828865930855220448 : Unit := ()
def PySem.W.Fast.tw15129742720483673586 : Unit := ()
def PySem.W.Fast.tw12849248848396526351 : Unit := ()
def PySem.W.Fast.tw10309134726716458841 : Unit := ()
def PySem.W.Fast.tw1895571713581982348 : Unit := ()
def PySem.W.Fast.tw16379063782714001109 : Unit := ()
def PySem.W.Fast.tw9242810014353483367 : Unit := ()
def PySem.W.Fast.tw2652663716327671383 : Unit := ()
def PySem.W.Fast.tw16630088709867797881 : Unit := ()
def PySem.W.Fast.tw10211429803338100399 : Unit := ()
def PySem.W.Fast.tw11295471557869545151 : Unit := ()
def PySem.W.Fast.tw5640560671077746263 : Unit := ()
def PySem.W.Fast.tw16752654517014008815 : Unit := ()
def PySem.W.Fast.tw9414847108651417707 : Unit := ()
def PySem.W.Fast.tw6159825635978985655 : Unit := ()
def PySem.W.Fast.tw7368583163696587330 : Unit := ()
def PySem.W.Fast.tw14422162598481282765 : Unit := ()
def PySem.W.Fast.tw8953710049496744744 : Unit := ()
def PySem.W.Fast.tw13643959741818488145 : Unit := ()
def PySem.W.Fast.tw2310582690983243606 : Unit := ()
def PySem.W.Fast.tw10303402373935236556 : Unit := ()
def PySem.W.Fast.tw2343494239415440681 : Unit := ()
def PySem.W.Fast.tw11048521881908241789 : Unit := ()
def PySem.W.Fast.tw16805788839726583988 : Unit := ()
def PySem.W.Fast.tw17666648211960475066 : Unit := ()
def PySem.W.Fast.tw8966988219816103218 : Unit := ()
def PySem.W.Fast.tw4696850682331704477 : Unit := ()
def PySem.W.Fast.tw14389250402351508869 : Unit := ()
def PySem.W.Fast.tw14255352220171807141 : Unit := ()
def PySem.W.Fast.tw18391876248623111529 : Unit := ()
def PySem.W.Fast.tw3086691266809503353 : Unit := ()
def PySem.W.Fast.tw12035428928870412534 : Unit := ()
def PySem.W.Fast.tw5450710897110841445 : Unit := ()
def PySem.W.Fast.tw10739855656577043047 : Unit := ()
def PySem.W.Fast.tw451726994597319243 : Unit := ()
def PySem.W.Fast.tw4057402680808714851 : Unit := ()
def PySem.W.Fast.tw11877830527098262107 : Unit := ()
def PySem.W.Fast.tw12497488784474460949 : Unit := ()
def PySem.W.Fast.tw7302294170617272668 : Unit := ()
def PySem.W.Fast.tw5987924299235830411 : Unit := ()
def PySem.W.Fast.tw3510098338341493548 : Unit := ()
def PySem.W.Fast.tw5427243909655312437 : Unit := ()
def PySem.W.Fast.tw575030523440563951 : Unit := ()
def PySem.W.Fast.tw16888092591778270452 : Unit := ()
def PySem.W.Fast.tw14879861079551477215 : Unit := ()
def PySem.W.Fast.tw7141362204803963126 : Unit := ()
def PySem.W.Fast.tw15774770853070207612 : Unit := ()
def PySem.W.Fast.tw5990833288965515296 : Unit := ()
def PySem.W.Fast.tw5706467345336886884 : Unit := ()
def PySem.W.Fast.tw14138926523463164859 : Unit := ()
def PySem.W.Fast.tw2054401041223740658 : Unit := ()
def PySem.W.Fast.tw2746926480040244687 : Unit := ()
def PySem.W.Fast.tw17102056410037754029 : Unit := ()
def PySem.W.Fast.tw3700178202923705006 : Unit := ()
def PySem.W.Fast.tw318913447933387706 : Unit := ()
def PySem.W.Fast.tw8293749979338846728 : Unit := ()
def PySem.W.Fast.tw12813073758451330892 : Unit := ()
def PySem.W.Fast.tw8428984905484996412 : Unit := ()
def PySem.W.Fast.tw9348141980865267148 : Unit := ()
def PySem.W.Fast.tw1737391694209076173 : Unit := ()
def PySem.W.Fast.tw8905006093495605882 : Unit := ()
def PySem.W.Fast.tw2469251181055780861 : Unit := ()
def PySem.W.Fast.tw8270282052681909911 : Unit := ()
def PySem.W.Fast.tw11948701810378700184 : Unit := ()
def PySem.W.Fast.tw11684369669477269251 : Unit := ()
def PySem.W.Fast.tw4690778644331709156 : Unit := ()
def PySem.W.Fast.tw5594023835313437908 : Unit := ()
def PySem.W.Fast.tw3129710484976966307 : Unit := ()
def PySem.W.Fast.tw12852731261177472522 : Unit := ()
def PySem.W.Fast.tw6573836634663410574 : Unit := ()
def PySem.W.Fast.tw1075695496775903847 : Unit := ()
def PySem.W.Fast.tw6794870465719032433 : Unit := ()
def PySem.W.Fast.tw15499730042768446624 : Unit := ()
def PySem.W.Fast.tw18031107789702288411 : Unit := ()
def PySem.W.Fast.tw11621394369213513245 : Unit := ()
def PySem.W.Fast.tw1896190910139884491 : Unit := ()
def PySem.W.Fast.tw18403416446745007446 : Unit := ()
def PySem.W.Fast.tw1177206365145846113 : Unit := ()
def PySem.W.Fast.tw6464146730126213566 : Unit := ()
def PySem.W.Fast.tw4436373401691312063 : Unit := ()
def PySem.W.Fast.tw11023130941668889187 : Unit := ()
def PySem.W.Fast.tw8011855107717815356 : Unit := ()
def PySem.W.Fast.tw5727876343112030531 : Unit := ()
def PySem.W.Fast.tw15217526351923582210 : Unit := ()
def PySem.W.Fast.tw7328881880767265293 : Unit := ()
def PySem.W.Fast.tw16313003466579023891 : Unit := ()
def PySem.W.Fast.tw12128381124862533469 : Unit := ()
def PySem.W.Fast.tw4427684648990062522 : Unit := ()
def PySem.W.Fast.tw13354368415632289297 : Unit := ()
def PySem.W.Fast.tw4600316488125060961 : Unit := ()
def PySem.W.Fast.tw11631939696037574571 : Unit := ()
def PySem.W.Fast.tw4343079637857222058 : Unit := ()
def PySem.W.Fast.tw9077929819798701126 : Unit := ()
def PySem.W.Fast.tw2247147987057102651 : Unit := ()
def PySem.W.Fast.tw9016857972009170700 : Unit := ()
def PySem.W.Fast.tw16592951974204588239 : Unit := ()
def PySem.W.Fast.tw6353635179311959584 : Unit := ()
def PySem.W.Fast.tw4011816207320975740 : Unit := ()
def PySem.W.Fast.tw7965571206331559445 : Unit := ()
def PySem.W.Fast.tw10567828743117032633 : Unit := ()
def PySem.W.Fast.tw9770241913768073869 : Unit := ()
def PySem.W.Fast.tw1926226063481696732 : Unit := ()
def PySem.W.Fast.tw10709672762455562839 : Unit := ()
def PySem.W.Fast.tw1631168948799028429 : Unit := ()
def PySem.W.Fast.tw1256058672235449360 : Unit := ()
def PySem.W.Fast.tw17676781099950451304 : Unit := ()
def PySem.W.Fast.tw13407959513127107647 : Unit := ()
def PySem.W.Fast.tw11627946065741507049 : Unit := ()
def PySem.W.Fast.tw543789286860057869 : Unit := ()
def PySem.W.Fast.tw8012754889342079560 : Unit := ()
def PySem.W.Fast.tw9531139995776099414 : Unit := ()
def PySem.W.Fast.tw689445978881871718 : Unit := ()
def PySem.W.Fast.tw7524833489356404544 : Unit := ()
def PySem.W.Fast.tw4647604319274349209 : Unit := ()
def PySem.W.Fast.tw5810768512824804985 : Unit := ()
def PySem.W.Fast.tw2810801888950823786 : Unit := ()
def PySem.W.Fast.tw14769629656632260380 : Unit := ()
def PySem.W.Fast.tw10879220742934207149 : Unit := ()
def PySem.W.Fast.tw1057040920819088157 : Unit := ()
def PySem.W.Fast.tw9445866856579184055 : Unit := ()
def PySem.W.Fast.tw17900619362700701687 : Unit := ()
def PySem.W.Fast.tw1124697769633739238 : Unit := ()
def PySem.W.Fast.tw6314212842659719519 : Unit := ()
def PySem.W.Fast.tw1559044888076188150 : Unit := ()
def PySem.W.Fast.tw12043113176961301539 : Unit := ()
def PySem.W.Fast.tw16297329217710833274 : Unit := ()
def PySem.W.Fast.tw966656547944573819 : Unit := ()
def PySem.W.Fast.tw5124322837524604965 : Unit := ()
def PySem.W.Fast.tw3044510896913911578 : Unit := ()
def PySem.W.Fast.tw1935943061970360187 : Unit := ()
def PySem.W.Fast.tw4886753745397172147 : Unit := ()
def PySem.W.Fast.tw12733273788139049716 : Unit := ()
def PySem.W.Fast.tw1719105611952751168 : Unit := ()
def PySem.W.Fast.tw18062875410399729616 : Unit := ()
def PySem.W.Fast.tw3923483909973402568 : Unit := ()
def PySem.W.Fast.tw2850057355153383709 : Unit := ()
def PySem.W.Fast.tw3633681945179070718 : Unit := ()
def PySem.W.Fast.tw15058677488248984336 : Unit := ()
def PySem.W.Fast.tw12500891744021817812 : Unit := ()
def PySem.W.Fast.tw17000822409094430972 : Unit := ()
def PySem.W.Fast.tw14640196161957940517 : Unit := ()
def PySem.W.Fast.tw13173197500565454910 : Unit := ()
def PySem.W.Fast.tw1399808947968499991 : Unit := ()
def PySem.W.Fast.tw12927518551276985626 : Unit := ()
def PySem.W.Fast.tw5320536159326627901 : Unit := ()
def PySem.W.Fast.tw12554267856696667857 : Unit := ()
def PySem.W.Fast.tw10030802359808720442 : Unit := ()
def PySem.W.Fast.tw8894062130165222520 : Unit := ()
def PySem.W.Fast.tw9220701138502203117 : Unit := ()
def PySem.W.Fast.tw23848275621789515 : Unit := ()
def PySem.W.Fast.tw7137251885131299486 : Unit := ()
def PySem.W.Fast.tw10338471072066607318 : Unit := ()
def PySem.W.Fast.tw10920469122154594600 : Unit := ()
def PySem.W.Fast.tw8429700410597390482 : Unit := ()
def PySem.W.Fast.tw16786015347585961287 : Unit := ()
def PySem.W.Fast.tw4686674745835028864 : Unit := ()
def PySem.W.Fast.tw17555229846688276556 : Unit := ()
def PySem.W.Fast.tw14942923749064075539 : Unit := ()
def PySem.W.Fast.tw9358567220067776809 : Unit := ()
def PySem.W.Fast.tw16383391772918540628 : Unit := ()
def PySem.W.Fast.tw14452577218514283565 : Unit := ()
def PySem.W.Fast.tw18208865777577869158 : Unit := ()
def PySem.W.Fast.tw9380007271594082408 : Unit := ()
def PySem.W.Fast.tw10659511443963677389 : Unit := ()
def PySem.W.Fast.tw17099048540366456849 : Unit := ()
def PySem.W.Fast.tw17929988125268201417 : Unit := ()
def PySem.W.Fast.tw576419841722717955 : Unit := ()
def PySem.W.Fast.tw669639594834291336 : Unit := ()
def PySem.W.Fast.tw7253064611912126567 : Unit := ()
def PySem.W.Fast.tw14302469798372666750 : Unit := ()
def PySem.W.Fast.tw9341978015800944805 : Unit := ()
def PySem.W.Fast.tw11924937887707276850 : Unit := ()
def PySem.W.Fast.tw17424641524077209366 : Unit := ()
def PySem.W.Fast.tw2364422218512694085 : Unit := ()
def PySem.W.Fast.tw6916793108487044036 : Unit := ()
def PySem.W.Fast.tw4029710355785230321 : Unit := ()
def PySem.W.Fast.tw2256221980792403332 : Unit := ()
def PySem.W.Fast.tw17612714310301062729 : Unit := ()
def PySem.W.Fast.tw15582165565950033641 : Unit := ()
def PySem.W.Fast.tw6650329572521469477 : Unit := ()
def PySem.W.Fast.tw6097592687517235378 : Unit := ()
def PySem.W.Fast.tw14871994136667145415 : Unit := ()
def PySem.W.Fast.tw17375810233419148060 : Unit := ()
def PySem.W.Fast.tw16428598409135885728 : Unit := ()
def PySem.W.Fast.tw9250390841600668844 : Unit := ()
def PySem.W.Fast.tw17539096006019399356 : Unit := ()
def PySem.W.Fast.tw6219783470529244273 : Unit := ()
def PySem.W.Fast.tw12534005976483689183 : Unit := ()
def PySem.W.Fast.tw8766701985418590567 : Unit := ()
def PySem.W.Fast.tw6307258354955388544 : Unit := ()
def PySem.W.Fast.tw5080243240285104735 : Unit := ()
def PySem.W.Fast.tw4479026042920042339 : Unit := ()
def PySem.W.Fast.tw13239728295075347789 : Unit := ()
def PySem.W.Fast.tw14967391356403542925 : Unit := ()
def PySem.W.Fast.tw4269964038393634125 : Unit := ()
def PySem.W.Fast.tw7274683479456906062 : Unit := ()
def PySem.W.Fast.tw15817619437617889465 : Unit := ()
def PySem.W.Fast.tw3896712753159458387 : Unit := ()
def PySem.W.Fast.tw3667696928273245812 : Unit := ()
def PySem.W.Fast.tw6777577052137495877 : Unit := ()
def PySem.W.Fast.tw14059738174146199939 : Unit := ()
def PySem.W.Fast.tw11979638605484563302 : Unit := ()
def PySem.W.Fast.tw7024370070089328631 : Unit := ()
def PySem.W.Fast.tw1260486706251862283 : Unit := ()
def PySem.W.Fast.tw11737727212178900590 : Unit := ()
def PySem.W.Fast.tw92955466358386930 : Unit := ()
def PySem.W.Fast.tw11753729554161934254 : Unit := ()
def PySem.W.Fast.tw4072658571342469507 : Unit := ()
def PySem.W.Fast.tw16485812229121442828 : Unit := ()
def PySem.W.Fast.tw1161708668422291568 : Unit := ()
def PySem.W.Fast.tw16093588527725686394 : Unit := ()
def PySem.W.Fast.tw12240846842034418087 : Unit := ()
def PySem.W.Fast.tw6472125243304944136 : Unit := ()
def PySem.W.Fast.tw1636018368420592321 : Unit := ()
def PySem.W.Fast.tw12882037181774659779 : Unit := ()
def PySem.W.Fast.tw181279448526142760 : Unit := ()
def PySem.W.Fast.tw17685803630075847514 : Unit := ()
def PySem.W.Fast.tw17199924488224936011 : Unit := ()
def PySem.W.Fast.tw7016322961909668911 : Unit := ()
def PySem.W.Fast.tw15154633331295613341 : Unit := ()
def PySem.W.Fast.tw16025704955193332993 : Unit := ()
def PySem.W.Fast.tw11568106089281292498 : Unit := ()
def PySem.W.Fast.tw14438601026756370016 : Unit := ()
def PySem.W.Fast.tw7575098790282202771 : Unit := ()
def PySem.W.Fast.tw9820718351308165854 : Unit := ()
def PySem.W.Fast.tw3471129015152051494 : Unit := ()
def PySem.W.Fast.tw8931200143911102637 : Unit := ()
def PySem.W.Fast.tw2707570676903909890 : Unit := ()
def PySem.W.Fast.tw3265892005100639409 : Unit := ()
def PySem.W.Fast.tw5756029940619032324 : Unit := ()
def PySem.W.Fast.tw4710457207500149631 : Unit := ()
def PySem.W.Fast.tw18318718315197548919 : Unit := ()
def PySem.W.Fast.tw152371075242027439 : Unit := ()
def PySem.W.Fast.tw3556442369392279310 : Unit := ()
def PySem.W.Fast.tw10266855169204705707 : Unit := ()
def PySem.W.Fast.tw14251012917809140854 : Unit := ()
def PySem.W.Fast.tw11973776011369867304 : Unit := ()
def PySem.W.Fast.tw10656869664337828295 : Unit := ()
def PySem.W.Fast.tw8039822169331001298 : Unit := ()
def PySem.W.Fast.tw8320118869019041294 : Unit := ()
def PySem.W.Fast.tw2479706829485096583 : Unit := ()
def PySem.W.Fast.tw9443598887761794426 : Unit := ()
def PySem.W.Fast.tw17130607373336957483 : Unit := ()
def PySem.W.Fast.tw12171204253795865118 : Unit := ()
def PySem.W.Fast.tw12008166666155316540 : Unit := ()
def PySem.W.Fast.tw818064890733299985 : Unit := ()
def PySem.W.Fast.tw5328766557910403848 : Unit := ()
def PySem.W.Fast.tw15853943513323388960 : Unit := ()
def PySem.W.Fast.tw988962268497232176 : Unit := ()
def PySem.W.Fast.tw16870000193496015274 : Unit := ()
def PySem.W.Fast.tw15280933413479490118 : Unit := ()
def PySem.W.Fast.tw5944876809504696827 : Unit := ()
def PySem.W.Fast.tw8959669844612150838 : Unit := ()
def PySem.W.Fast.tw7077132119576675520 : Unit := ()
def PySem.W.Fast.tw1531260431880988001 : Unit := ()
def PySem.W.Fast.tw709390503173520711 : Unit := ()
def PySem.W.Fast.tw5277711440248296553 : Unit := ()
def PySem.W.Fast.tw13270345615014384439 : Unit := ()
def PySem.W.Fast.tw7138335753241888680 : Unit := ()
def PySem.W.Fast.tw16455550186136267080 : Unit := ()
def PySem.W.Fast.tw16501543352230179491 : Unit := ()
def PySem.W.Fast.tw7888930395039654238 : Unit := ()
def PySem.W.Fast.tw15882887432314888272 : Unit := ()
def PySem.W.Fast.tw8870106986173522646 : Unit := ()
def PySem.W.Fast.tw16562830004414979109 : Unit := ()
def PySem.W.Fast.tw9843518349822247376 : Unit := ()
def PySem.W.Fast.tw7017077697783574009 : Unit := ()
def PySem.W.Fast.tw5716023845163204693 : Unit := ()
def PySem.W.Fast.tw11416339880755163986 : Unit := ()
def PySem.W.Fast.tw3830141198191318036 : Unit := ()
def PySem.W.Fast.tw1310151432407831114 : Unit := ()
def PySem.W.Fast.tw317479975852227822 : Unit := ()
def PySem.W.Fast.tw13487690675898981344 : Unit := ()
def PySem.W.Fast.tw8640128653839429605 : Unit := ()
def PySem.W.Fast.tw14004139903716930597 : Unit := ()
def PySem.W.Fast.tw6007285231246110292 : Unit := ()
def PySem.W.Fast.tw4100184379340292141 : Unit := ()
def PySem.W.Fast.tw6621562677514638412 : Unit := ()
def PySem.W.Fast.tw15262103283687377012 : Unit := ()
def PySem.W.Fast.tw270457485640412707 : Unit := ()
def PySem.W.Fast.tw3813180111672458990 : Unit := ()
def PySem.W.Fast.tw10871271663562344179 : Unit := ()
def PySem.W.Fast.tw817738796568255 : Unit := ()
def PySem.W.Fast.tw1150078531579516373 : Unit := ()
def PySem.W.Fast.tw6064627811867898002 : Unit := ()
def PySem.W.Fast.tw17032819922150122920 : Unit := ()
def PySem.W.Fast.tw17056679394604663587 : Unit := ()
def PySem.W.Fast.tw415094772352849426 : Unit := ()
def PySem.W.Fast.tw16441726049847524411 : Unit := ()
def PySem.W.Fast.tw7543809483903069862 : Unit := ()
def PySem.W.Fast.tw977218756409495273 : Unit := ()
def PySem.W.Fast.tw5817582071246071190 : Unit := ()
def PySem.W.Fast.tw11872273799557568482 : Unit := ()
def PySem.W.Fast.tw2897128324880548696 : Unit := ()
def PySem.W.Fast.tw3329716682461538953 : Unit := ()
def PySem.W.Fast.tw10936019691762277275 : Unit := ()
def PySem.W.Fast.tw15361708916224755962 : Unit := ()
def PySem.W.Fast.tw1547463227908706742 : Unit := ()
def PySem.W.Fast.tw16616925943546885205 : Unit := ()
def PySem.W.Fast.tw1483099942744153208 : Unit := ()
def PySem.W.Fast.tw8514252034426875494 : Unit := ()
def PySem.W.Fast.tw6816223322854922688 : Unit := ()
def PySem.W.Fast.tw13815952071398854255 : Unit := ()
def PySem.W.Fast.tw1473613355730929821 : Unit := ()
def PySem.W.Fast.tw8005981239498495790 : Unit := ()
def PySem.W.Fast.tw13293901884927892776 : Unit := ()
def PySem.W.Fast.tw6942703849251396030 : Unit := ()
def PySem.W.Fast.tw12884939061452146760 : Unit := ()
def PySem.W.Fast.tw18032453865017012189 : Unit := ()
def PySem.W.Fast.tw4075845032687357394 : Unit := ()
def PySem.W.Fast.tw13124838784917725939 : Unit := ()
def PySem.W.Fast.tw2695700644142139084 : Unit := ()
def PySem.W.Fast.tw13817647743845935708 : Unit := ()
def PySem.W.Fast.tw4460413908257068340 : Unit := ()
def PySem.W.Fast.tw14437232314074201253 : Unit := ()
def PySem.W.Fast.tw7018102245665946531 : Unit := ()
def PySem.W.Fast.tw6219710973428712187 : Unit := ()
def PySem.W.Fast.tw10623169316474415488 : Unit := ()
def PySem.W.Fast.tw7505736525152499820 : Unit := ()
def PySem.W.Fast.tw14482539439564174902 : Unit := ()
def PySem.W.Fast.tw15390792207047751492 : Unit := ()
def PySem.W.Fast.tw18359909261883321642 : Unit := ()
def PySem.W.Fast.tw4409836183768114683 : Unit := ()
def PySem.W.Fast.tw8812894298690409879 : Unit := ()
def PySem.W.Fast.tw10645185708445025222 : Unit := ()
def PySem.W.Fast.tw17742980729829307621 : Unit := ()
def PySem.W.Fast.tw2519745288772056220 : Unit := ()
def PySem.W.Fast.tw14745565804491294392 : Unit := ()
def PySem.W.Fast.tw1590353368327800165 : Unit := ()
def PySem.W.Fast.tw16263954729087048864 : Unit := ()
def PySem.W.Fast.tw3966297216393358489 : Unit := ()
def PySem.W.Fast.tw13925158380988700138 : Unit := ()
def PySem.W.Fast.tw16808892814396750243 : Unit := ()
def PySem.W.Fast.tw18154641538457621298 : Unit := ()
def PySem.W.Fast.tw389492031186419787 : Unit := ()
def PySem.W.Fast.tw10620650602759133439 : Unit := ()
def PySem.W.Fast.tw10044039702976637083 : Unit := ()
def PySem.W.Fast.tw12525763270536248939 : Unit := ()
def PySem.W.Fast.tw9733435005360349722 : Unit := ()
def PySem.W.Fast.tw9324113647126439860 : Unit := ()
def PySem.W.Fast.tw8855688108496597929 : Unit := ()
def PySem.W.Fast.tw6329681455550843414 : Unit := ()
def PySem.W.Fast.tw11169763616349806326 : Unit := ()
def PySem.W.Fast.tw7634622501144298328 : Unit := ()
def PySem.W.Fast.tw10738430840506164064 : Unit := ()
def PySem.W.Fast.tw14489363359595654385 : Unit := ()
def PySem.W.Fast.tw15516725710247148495 : Unit := ()
def PySem.W.Fast.tw4854563798016662542 : Unit := ()
def PySem.W.Fast.tw2625296643481684873 : Unit := ()
def PySem.W.Fast.tw3521698767593016165 : Unit := ()
def PySem.W.Fast.tw7850231495407697316 : Unit := ()
def PySem.W.Fast.tw10063061811127832314 : Unit := ()
def PySem.W.Fast.tw1735360604408707933 : Unit := ()
def PySem.W.Fast.tw15199306369942241623 : Unit := ()
def PySem.W.Fast.tw13487258797051245572 : Unit := ()
def PySem.W.Fast.tw10637665142678674689 : Unit := ()
def PySem.W.Fast.tw11812864839291483594 : Unit := ()
def PySem.W.Fast.tw10696609569954725799 : Unit := ()
def PySem.W.Fast.tw17811872668768383596 : Unit := ()
def PySem.W.Fast.tw4577089997735996374 : Unit := ()
def PySem.W.Fast.tw16551623859028705954 : Unit := ()
def PySem.W.Fast.tw15508098776070269331 : Unit := ()
def PySem.W.Fast.tw14078592791136500603 : Unit := ()
def PySem.W.Fast.tw14071661026857946467 : Unit := ()
def PySem.W.Fast.tw10364168281746608205 : Unit := ()
def PySem.W.Fast.tw920967718558749553 : Unit := ()
def PySem.W.Fast.tw16181900382197742460 : Unit := ()
def PySem.W.Fast.tw9392612413776011970 : Unit := ()
def PySem.W.Fast.tw14598402990063541784 : Unit := ()
def PySem.W.Fast.tw8638469804933186640 : Unit := ()
def PySem.W.Fast.tw15526291880172417453 : Unit := ()
def PySem.W.Fast.tw4998367719861210466 : Unit := ()
def PySem.W.Fast.tw2883018401820493525 : Unit := ()
def PySem.W.Fast.tw6469662983125428037 : Unit := ()
def PySem.W.Fast.tw8399841665546431011 : Unit := ()
def PySem.W.Fast.tw10392880407676138068 : Unit := ()
def PySem.W.Fast.tw16835998741778011692 : Unit := ()
def PySem.W.Fast.tw11426273425596285405 : Unit := ()
def PySem.W.Fast.tw13590280884792851430 : Unit := ()
def PySem.W.Fast.tw3783388185081826665 : Unit := ()
def PySem.W.Fast.tw13405052547294153687 : Unit := ()
def PySem.W.Fast.tw5555124060354647820 : Unit := ()
def PySem.W.Fast.tw16205262906145611536 : Unit := ()
def PySem.W.Fast.tw9469330662670696079 : Unit := ()
def PySem.W.Fast.tw18185237371717017985 : Unit := ()
def PySem.W.Fast.tw6331885761593387381 : Unit := ()
def PySem.W.Fast.tw1945070933692811814 : Unit := ()
def PySem.W.Fast.tw3590281356293801373 : Unit := ()
def PySem.W.Fast.tw9734287421739913142 : Unit := ()
def PySem.W.Fast.tw10988039949763512192 : Unit := ()
def PySem.W.Fast.tw17037291022735480161 : Unit := ()
def PySem.W.Fast.tw10580808980904038310 : Unit := ()
def PySem.W.Fast.tw9478793124686024351 : Unit := ()
def PySem.W.Fast.tw10467277821773778924 : Unit := ()
def PySem.W.Fast.tw3886156861770044468 : Unit := ()
def PySem.W.Fast.tw10453615154566656888 : Unit := ()
def PySem.W.Fast.tw11971315555720073117 : Unit := ()
def PySem.W.Fast.tw11061283706534822698 : Unit := ()
def PySem.W.Fast.tw12689852169951317710 : Unit := ()
def PySem.W.Fast.tw1782737119627635072 : Unit := ()
def PySem.W.Fast.tw12635911997541122820 : Unit := ()
def PySem.W.Fast.tw10787587015048119400 : Unit := ()
def PySem.W.Fast.tw16789307301196081272 : Unit := ()
def PySem.W.Fast.tw17740375734962852892 : Unit := ()
def PySem.W.Fast.tw7018813326297306291 : Unit := ()
def PySem.W.Fast.tw471302345886374663 : Unit := ()
def PySem.W.Fast.tw11851346415124752190 : Unit := ()
def PySem.W.Fast.tw1082551362672370133 : Unit := ()
def PySem.W.Fast.tw6405342483850794108 : Unit := ()
def PySem.W.Fast.tw9136932871042208912 : Unit := ()
def PySem.W.Fast.tw7788393299028824481 : Unit := ()
def PySem.W.Fast.tw12375114229853615934 : Unit := ()
def PySem.W.Fast.tw974785767286124989 : Unit := ()
def PySem.W.Fast.tw8900828906641681924 : Unit := ()
def PySem.W.Fast.tw2971605443667786602 : Unit := ()
def PySem.W.Fast.tw222179673478421097 : Unit := ()
def PySem.W.Fast.tw1475592134569616064 : Unit := ()
def PySem.W.Fast.tw15029943898583640892 : Unit := ()
def PySem.W.Fast.tw3316706987645943605 : Unit := ()
def PySem.W.Fast.tw12332580161969144271 : Unit := ()
def PySem.W.Fast.tw16105236723134975832 : Unit := ()
def PySem.W.Fast.tw14733240298089789370 : Unit := ()
def PySem.W.Fast.tw11853591461360678898 : Unit := ()
def PySem.W.Fast.tw6067079932159183962 : Unit := ()
def PySem.W.Fast.tw2250542708798651322 : Unit := ()
def PySem.W.Fast.tw17942722358910987729 : Unit := ()
def PySem.W.Fast.tw8778200247127289123 : Unit := ()
def PySem.W.Fast.tw4950648321242998861 : Unit := ()
def PySem.W.Fast.tw3076805072122766754 : Unit := ()
def PySem.W.Fast.tw7179884031277848632 : Unit := ()
def PySem.W.Fast.tw17335271895553071515 : Unit := ()
def PySem.W.Fast.tw13809814545021044009 : Unit := ()
def PySem.W.Fast.tw8077558026148305217 : Unit := ()
def PySem.W.Fast.tw11794102729303857272 : Unit := ()
def PySem.W.Fast.tw16866469617352569803 : Unit := ()
def PySem.W.Fast.tw11025382914303542595 : Unit := ()
def PySem.W.Fast.tw4354043972480727027 : Unit := ()
def PySem.W.Fast.tw17753044719985238252 : Unit := ()
def PySem.W.Fast.tw10620389365608583721 : Unit := ()
def PySem.W.Fast.tw2864918226632901953 : Unit := ()
def PySem.W.Fast.tw16630240434548367523 : Unit := ()
def PySem.W.Fast.tw6945520697275472655 : Unit := ()
def PySem.W.Fast.tw2680316143021110165 : Unit := ()
def PySem.W.Fast.tw14376377318736215674 : Unit := ()
def PySem.W.Fast.tw11718517831801919173 : Unit := ()
def PySem.W.Fast.tw2734184953865202262 : Unit := ()
def PySem.W.Fast.tw15346093877647895510 : Unit := ()
def PySem.W.Fast.tw6039795562860368090 : Unit := ()
def PySem.W.Fast.tw7747283717857971141 : Unit := ()
def PySem.W.Fast.tw18344557475820418987 : Unit := ()
def PySem.W.Fast.tw11912181866731565343 : Unit := ()
def PySem.W.Fast.tw2977014855729233073 : Unit := ()
def PySem.W.Fast.tw8860359004939316445 : Unit := ()
def PySem.W.Fast.tw8756076602340527218 : Unit := ()
def PySem.W.Fast.tw3437983859445956264 : Unit := ()
def PySem.W.Fast.tw6940965354828829128 : Unit := ()
def PySem.W.Fast.tw5317657681468836334 : Unit := ()
def PySem.W.Fast.tw5630107417818496080 : Unit := ()
def PySem.W.Fast.tw14085921664133139508 : Unit := ()
def PySem.W.Fast.tw14142423967659589143 : Unit := ()
def PySem.W.Fast.tw10659031885646093872 : Unit := ()
def PySem.W.Fast.tw3879538176056135889 : Unit := ()
def PySem.W.Fast.tw4370467751917605769 : Unit := ()
def PySem.W.Fast.tw1667791166064222493 : Unit := ()
def PySem.W.Fast.tw18093685844253627824 : Unit := ()
def PySem.W.Fast.tw4062579282212653041 : Unit := ()
def PySem.W.Fast.tw13261089757917935537 : Unit := ()
def PySem.W.Fast.tw10984222193213246925 : Unit := ()
def PySem.W.Fast.tw8953471476388372473 : Unit := ()
def PySem.W.Fast.tw16855050961352654191 : Unit := ()
def PySem.W.Fast.tw245635808280251617 : Unit := ()
def PySem.W.Fast.tw9447757463415397875 : Unit := ()
def PySem.W.Fast.tw8308393972315567684 : Unit := ()
def PySem.W.Fast.tw2120427420346958582 : Unit := ()
def PySem.W.Fast.tw3009800709539542242 : Unit := ()
def PySem.W.Fast.tw10707304572224408849 : Unit := ()
def PySem.W.Fast.tw1842563951441440197 : Unit := ()
def PySem.W.Fast.tw17952110875104089405 : Unit := ()
def PySem.W.Fast.tw5557067700802802964 : Unit := ()
def PySem.W.Fast.tw5152302223634607983 : Unit := ()
def PySem.W.Fast.tw16230779929546196049 : Unit := ()
def PySem.W.Fast.tw11269490786614442729 : Unit := ()
def PySem.W.Fast.tw402203966308553224 : Unit := ()
def PySem.W.Fast.tw8559541816494720891 : Unit := ()
def PySem.W.Fast.tw16116198290842265259 : Unit := ()
def PySem.W.Fast.tw14305445645350713496 : Unit := ()
def PySem.W.Fast.tw5618069468479252825 : Unit := ()
def PySem.W.Fast.tw6012963482181393899 : Unit := ()
def PySem.W.Fast.tw14894969169884862808 : Unit := ()
def PySem.W.Fast.tw3564749773811093879 : Unit := ()
def PySem.W.Fast.tw11659471319475181555 : Unit := ()
def PySem.W.Fast.tw16429074247758850588 : Unit := ()
def PySem.W.Fast.tw17344967452488171074 : Unit := ()
def PySem.W.Fast.tw16953593791287309472 : Unit := ()
def PySem.W.Fast.tw16021615412442638408 : Unit := ()
def PySem.W.Fast.tw680150272773840437 : Unit := ()
def PySem.W.Fast.tw18299913255267481799 : Unit := ()
def PySem.W.Fast.tw7871749870844089669 : Unit := ()
def PySem.W.Fast.tw11649676474144951670 : Unit := ()
def PySem.W.Fast.tw7835017861770030630 : Unit := ()
def PySem.W.Fast.tw1179811434319832832 : Unit := ()
def PySem.W.Fast.tw14059229847672472806 : Unit := ()
def PySem.W.Fast.tw5182449816836127911 : Unit := ()
def PySem.W.Fast.tw18147074621904124555 : Unit := ()
def PySem.W.Fast.tw870960812232760957 : Unit := ()
def PySem.W.Fast.tw5160011776410775918 : Unit := ()
def PySem.W.Fast.tw11671618171322996614 : Unit := ()
def PySem.W.Fast.tw10182847655699343135 : Unit := ()
def PySem.W.Fast.tw2037714992907735000 : Unit := ()
def PySem.W.Fast.tw2657501695208812548 : Unit := ()
def PySem.W.Fast.tw13620288518426095394 : Unit := ()
def PySem.W.Fast.tw6008086548219539510 : Unit := ()
def PySem.W.Fast.tw16651283338322423809 : Unit := ()
def PySem.W.Fast.tw10136301497171624505 : Unit := ()
def PySem.W.Fast.tw4953663238385778532 : Unit := ()
def PySem.W.Fast.tw5840517692460990089 : Unit := ()
def PySem.W.Fast.tw6318286127706552475 : Unit := ()
def PySem.W.Fast.tw3255845771892689734 : Unit := ()
def PySem.W.Fast.tw14596943605026100986 : Unit := ()
def PySem.W.Fast.tw7292142108681484419 : Unit := ()
def PySem.W.Fast.tw10070793757766535835 : Unit := ()
def PySem.W.Fast.tw6923701410595472110 : Unit := ()
def PySem.W.Fast.tw7331098958249807255 : Unit := ()
def PySem.W.Fast.tw3863886748031290248 : Unit := ()
def PySem.W.Fast.tw13623789075379251026 : Unit := ()
def PySem.W.Fast.tw17911746829276796291 : Unit := ()
def PySem.W.Fast.tw4568662344641070133 : Unit := ()
def PySem.W.Fast.tw13631003650251076630 : Unit := ()
def PySem.W.Fast.tw14038720969156722914 : Unit := ()
def PySem.W.Fast.tw519986592014863469 : Unit := ()
def PySem.W.Fast.tw8179276543889605755 : Unit := ()
def PySem.W.Fast.tw435691878475420640 : Unit := ()
def PySem.W.Fast.tw11490371650158776000 : Unit := ()
def PySem.W.Fast.tw13738522223834367110 : Unit := ()
def PySem.W.Fast.tw13549280065357922245 : Unit := ()
def PySem.W.Fast.tw15576250756195384152 : Unit := ()
def PySem.W.Fast.tw11322656654817288924 : Unit := ()
def PySem.W.Fast.tw12268314678696072374 : Unit := ()
def PySem.W.Fast.tw12021521024000643992 : Unit := ()
def PySem.W.Fast.tw5853691738726516971 : Unit := ()
def PySem.W.Fast.tw16970200497433932185 : Unit := ()
def PySem.W.Fast.tw4691376456158423673 : Unit := ()
def PySem.W.Fast.tw17057229087309452990 : Unit := ()
def PySem.W.Fast.tw5597287991907002443 : Unit := ()
def PySem.W.Fast.tw3429357684785317007 : Unit := ()
def PySem.W.Fast.tw14538823862642071158 : Unit := ()
def PySem.W.Fast.tw7965655353146844816 : Unit := ()
def PySem.W.Fast.tw7914916120338340528 : Unit := ()
def PySem.W.Fast.tw18365614132248341618 : Unit := ()
def PySem.W.Fast.tw8305644821650234528 : Unit := ()
def PySem.W.Fast.tw15011008410869755517 : Unit := ()
def PySem.W.Fast.tw2147274461307973346 : Unit := ()
def PySem.W.Fast.tw2583997520715676119 : Unit := ()
def PySem.W.Fast.tw10047277440602596971 : Unit := ()
def PySem.W.Fast.tw3485589600945438879 : Unit := ()
def PySem.W.Fast.tw1977236764147600133 : Unit := ()
def PySem.W.Fast.tw118802131304158358 : Unit := ()
def PySem.W.Fast.tw13604854632954674897 : Unit := ()
def PySem.W.Fast.tw12645091173857619673 : Unit := ()
def PySem.W.Fast.tw7598753976599615612 : Unit := ()
def PySem.W.Fast.tw6444293310154830914 : Unit := ()
def PySem.W.Fast.tw14414858197535999786 : Unit := ()
def PySem.W.Fast.tw17245574814308589845 : Unit := ()
def PySem.W.Fast.tw6587364294112411559 : Unit := ()
def PySem.W.Fast.tw2842933141357291294 : Unit := ()
def PySem.W.Fast.tw5201773620194262669 : Unit := ()
def PySem.W.Fast.tw1264349957415531277 : Unit := ()
def PySem.W.Fast.tw12692137081476059026 : Unit := ()
def PySem.W.Fast.tw17511480630168809117 : Unit := ()
def PySem.W.Fast.tw17316654071013347191 : Unit := ()
def PySem.W.Fast.tw8184777202032968422 : Unit := ()
def PySem.W.Fast.tw3996501030537662049 : Unit := ()
def PySem.W.Fast.tw230923773672757026 : Unit := ()
def PySem.W.Fast.tw13996601515153369354 : Unit := ()
def PySem.W.Fast.tw17635440727067437610 : Unit := ()
def PySem.W.Fast.tw12686843094505097630 : Unit := ()
def PySem.W.Fast.tw16668467870966052921 : Unit := ()
def PySem.W.Fast.tw2440926270541067055 : Unit := ()
def PySem.W.Fast.tw13772093805289035363 : Unit := ()
def PySem.W.Fast.tw5399690164600478950 : Unit := ()
def PySem.W.Fast.tw2645587145867347338 : Unit := ()
def PySem.W.Fast.tw16428862235190130174 : Unit := ()
def PySem.W.Fast.tw11910248261281353438 : Unit := ()
def PySem.W.Fast.tw2004949242584344511 : Unit := ()
def PySem.W.Fast.tw5974100502815794563 : Unit := ()
def PySem.W.Fast.tw5267259623552248655 : Unit := ()
def PySem.W.Fast.tw11035775029528969037 : Unit := ()
def PySem.W.Fast.tw5799271807546496043 : Unit := ()
def PySem.W.Fast.tw16380297961351359022 : Unit := ()
def PySem.W.Fast.tw8889642487785974273 : Unit := ()
def PySem.W.Fast.tw17358282827009141388 : Unit := ()
def PySem.W.Fast.tw3736869521866685569 : Unit := ()
def PySem.W.Fast.tw16001894730509952544 : Unit := ()
def PySem.W.Fast.tw11525069690355846767 : Unit := ()
def PySem.W.Fast.tw121780957400792123 : Unit := ()
def PySem.W.Fast.tw8229602120424833877 : Unit := ()
def PySem.W.Fast.tw439306384309827606 : Unit := ()
def PySem.W.Fast.tw11957610491731830155 : Unit := ()
def PySem.W.Fast.tw1767394525088872334 : Unit := ()
def PySem.W.Fast.tw8703261854727922445 : Unit := ()
def PySem.W.Fast.tw10773509549202692606 : Unit := ()
def PySem.W.Fast.tw4937665386854730103 : Unit := ()
def PySem.W.Fast.tw10702740070095782494 : Unit := ()
def PySem.W.Fast.tw8422647281417500285 : Unit := ()
def PySem.W.Fast.tw18165309300829465364 : Unit := ()
def PySem.W.Fast.tw5937435490586936515 : Unit := ()
def PySem.W.Fast.tw11421523983286862342 : Unit := ()
def PySem.W.Fast.tw10906210148707620585 : Unit := ()
def PySem.W.Fast.tw162590657977890879 : Unit := ()
def PySem.W.Fast.tw7536182667699801923 : Unit := ()
def PySem.W.Fast.tw16942927691890544591 : Unit := ()
def PySem.W.Fast.tw18359027486990084591 : Unit := ()
def PySem.W.Fast.tw12888214105699160974 : Unit := ()
def PySem.W.Fast.tw168335421847455964 : Unit := ()
def PySem.W.Fast.tw1436375153905063017 : Unit := ()
def PySem.W.Fast.tw10956903703075747118 : Unit := ()
def PySem.W.Fast.tw8065357371675655421 : Unit := ()
def PySem.W.Fast.tw6701650785149424004 : Unit := ()
def PySem.W.Fast.tw603929847130384673 : Unit := ()
def PySem.W.Fast.tw6179871372507518207 : Unit := ()
def PySem.W.Fast.tw16361566041963848215 : Unit := ()
def PySem.W.Fast.tw11731062272217034657 : Unit := ()
def PySem.W.Fast.tw1974721048867001455 : Unit := ()
def PySem.W.Fast.tw10428254679419376790 : Unit := ()
def PySem.W.Fast.tw13222806738282272262 : Unit := ()
def PySem.W.Fast.tw16698884312220975251 : Unit := ()
def PySem.W.Fast.tw4082837565538642948 : Unit := ()
def PySem.W.Fast.tw1775480558673592741 : Unit := ()
def PySem.W.Fast.tw15797887741217221854 : Unit := ()
def PySem.W.Fast.tw7784166998225069835 : Unit := ()
def PySem.W.Fast.tw5954767343720775625 : Unit := ()
def PySem.W.Fast.tw6177389230802650550 : Unit := ()
def PySem.W.Fast.tw869545256743633156 : Unit := ()
def PySem.W.Fast.tw5451822750975578304 : Unit := ()
def PySem.W.Fast.tw11542019436932362664 : Unit := ()
def PySem.W.Fast.tw2361724313997145157 : Unit := ()
def PySem.W.Fast.tw6627205660648301141 : Unit := ()
def PySem.W.Fast.tw17910290061502679218 : Unit := ()
def PySem.W.Fast.tw15059375812907661156 : Unit := ()
def PySem.W.Fast.tw12943258002418301222 : Unit := ()
def PySem.W.Fast.tw761737506626205964 : Unit := ()
def PySem.W.Fast.tw16588434293714418972 : Unit := ()
def PySem.W.Fast.tw10353116773899067437 : Unit := ()
def PySem.W.Fast.tw11728128155726517360 : Unit := ()
def PySem.W.Fast.tw7505313655067036247 : Unit := ()
def PySem.W.Fast.tw12628631636539389257 : Unit := ()
def PySem.W.Fast.tw7954638422621507496 : Unit := ()
def PySem.W.Fast.tw3336080685662941114 : Unit := ()
def PySem.W.Fast.tw5204554987991630819 : Unit := ()
def PySem.W.Fast.tw5177927099346107449 : Unit := ()
def PySem.W.Fast.tw3390923476091655302 : Unit := ()
def PySem.W.Fast.tw8808044540399448608 : Unit := ()
def PySem.W.Fast.tw16167105237640516579 : Unit := ()
def PySem.W.Fast.tw10260719155366512540 : Unit := ()
def PySem.W.Fast.tw549131347853650575 : Unit := ()
def PySem.W.Fast.tw16520992586610128379 : Unit := ()
def PySem.W.Fast.tw12958518390586727973 : Unit := ()
def PySem.W.Fast.tw5380229854940333984 : Unit := ()
def PySem.W.Fast.tw9043613159557879679 : Unit := ()
def PySem.W.Fast.tw10064373104848381358 : Unit := ()
def PySem.W.Fast.tw7420458523345258302 : Unit := ()
def PySem.W.Fast.tw4966522051130228580 : Unit := ()
def PySem.W.Fast.tw2650897195433634190 : Unit := ()
def PySem.W.Fast.tw16670523845176551988 : Unit := ()
def PySem.W.Fast.tw12060495274337023332 : Unit := ()
def PySem.W.Fast.tw10083770703601872931 : Unit := ()
def PySem.W.Fast.tw14816259269205968678 : Unit := ()
def PySem.W.Fast.tw3219410039482991646 : Unit := ()
def PySem.W.Fast.tw1818084847424347288 : Unit := ()
def PySem.W.Fast.tw16294717190374425321 : Unit := ()
def PySem.W.Fast.tw14250337433040672149 : Unit := ()
def PySem.W.Fast.tw2965621234066625900 : Unit := ()
def PySem.W.Fast.tw10348434224933161589 : Unit := ()
def PySem.W.Fast.tw15740039908769071381 : Unit := ()
def PySem.W.Fast.tw8462440166688632079 : Unit := ()
def PySem.W.Fast.tw18418270276563060565 : Unit := ()
def PySem.W.Fast.tw9148719061023375707 : Unit := ()
def PySem.W.Fast.tw10561337117044914699 : Unit := ()
def PySem.W.Fast.tw11241097964781674770 : Unit := ()
def PySem.W.Fast.tw9988089760057928000 : Unit := ()
def PySem.W.Fast.tw7428569818774726327 : Unit := ()
def PySem.W.Fast.tw2459820752099649145 : Unit := ()
def PySem.W.Fast.tw1299909328355674772 : Unit := ()
def PySem.W.Fast.tw15353731988927081422 : Unit := ()
def PySem.W.Fast.tw2801049747718252120 : Unit := ()
def PySem.W.Fast.tw15574761719850392135 : Unit := ()
def PySem.W.Fast.tw12595025418431638444 : Unit := ()
def PySem.W.Fast.tw10312140077090663130 : Unit := ()
def PySem.W.Fast.tw17537924071555609635 : Unit := ()
def PySem.W.Fast.tw3665670324010968595 : Unit := ()
def PySem.W.Fast.tw5179865452633336239 : Unit := ()
def PySem.W.Fast.tw3397397285827417734 : Unit := ()
def PySem.W.Fast.tw13821155741090547015 : Unit := ()
def PySem.W.Fast.tw1276003163985012882 : Unit := ()
def PySem.W.Fast.tw4253895419186559442 : Unit := ()
def PySem.W.Fast.tw18223053374328289872 : Unit := ()
def PySem.W.Fast.tw15278359933213496507 : Unit := ()
def PySem.W.Fast.tw12744743722942689477 : Unit := ()
def PySem.W.Fast.tw9153744420016831797 : Unit := ()
def PySem.W.Fast.tw9857982310418046522 : Unit := ()
def PySem.W.Fast.tw5871162395553822932 : Unit := ()
def PySem.W.Fast.tw3725422175978441250 : Unit := ()
def PySem.W.Fast.tw10012134237639957797 : Unit := ()
def PySem.W.Fast.tw4905053527745629680 : Unit := ()
def PySem.W.Fast.tw343051522568453721 : Unit := ()
def PySem.W.Fast.tw3423490169955304130 : Unit := ()
def PySem.W.Fast.tw6190073041845119414 : Unit := ()
def PySem.W.Fast.tw17328490394015205428 : Unit := ()
def PySem.W.Fast.tw14770160374853174931 : Unit := ()
def PySem.W.Fast.tw13377560154791787274 : Unit := ()
def PySem.W.Fast.tw13621403309294776388 : Unit := ()
def PySem.W.Fast.tw4604954176052429999 : Unit := ()
def PySem.W.Fast.tw13853290295029385470 : Unit := ()
def PySem.W.Fast.tw16517312573390559202 : Unit := ()
def PySem.W.Fast.tw1666994684410721366 : Unit := ()
def PySem.W.Fast.tw655606716747089703 : Unit := ()
def PySem.W.Fast.tw6064789155019882735 : Unit := ()
def PySem.W.Fast.tw11342534058224078356 : Unit := ()
def PySem.W.Fast.tw1052278836841599737 : Unit := ()
def PySem.W.Fast.tw7746636740369462583 : Unit := ()
def PySem.W.Fast.tw2281070687166128126 : Unit := ()
def PySem.W.Fast.tw6759118437679560080 : Unit := ()
def PySem.W.Fast.tw10592031158627899430 : Unit := ()
def PySem.W.Fast.tw17621293821281533690 : Unit := ()
def PySem.W.Fast.tw7871061837461819171 : Unit := ()
def PySem.W.Fast.tw8490689285985048274 : Unit := ()
def PySem.W.Fast.tw14092357574679078971 : Unit := ()
def PySem.W.Fast.tw14620744884434291589 : Unit := ()
def PySem.W.Fast.tw3835214709674108732 : Unit := ()
def PySem.W.Fast.tw5630700742652388511 : Unit := ()
def PySem.W.Fast.tw6140615824617217006 : Unit := ()
def PySem.W.Fast.tw1741091029375528277 : Unit := ()
def PySem.W.Fast.tw11709305757570662164 : Unit := ()
def PySem.W.Fast.tw8517062899051302571 : Unit := ()
def PySem.W.Fast.tw12289596451408222564 : Unit := ()
def PySem.W.Fast.tw5738116010460779267 : Unit := ()
def PySem.W.Fast.tw7440046687294978459 : Unit := ()
def PySem.W.Fast.tw14153469749054350555 : Unit := ()
def PySem.W.Fast.tw6994301646980723993 : Unit := ()
def PySem.W.Fast.tw9711548744247295991 : Unit := ()
def PySem.W.Fast.tw12081524218225695812 : Unit := ()
def PySem.W.Fast.tw16804399173473131439 : Unit := ()
def PySem.W.Fast.tw8970137394052196868 : Unit := ()
def PySem.W.Fast.tw7079796821496271751 : Unit := ()
def PySem.W.Fast.tw6578593826123560209 : Unit := ()
def PySem.W.Fast.tw1414848878123529492 : Unit := ()
def PySem.W.Fast.tw2428632506607051206 : Unit := ()
def PySem.W.Fast.tw13246668045922369756 : Unit := ()
def PySem.W.Fast.tw12488885485337451182 : Unit := ()
def PySem.W.Fast.tw11447358465962957941 : Unit := ()
def PySem.W.Fast.tw6195740534521392886 : Unit := ()
def PySem.W.Fast.tw15986551121391414336 : Unit := ()
def PySem.W.Fast.tw5795299323909586751 : Unit := ()
def PySem.W.Fast.tw5548343608869408657 : Unit := ()
def PySem.W.Fast.tw453656517885693638 : Unit := ()
def PySem.W.Fast.tw9514061455462331601 : Unit := ()
def PySem.W.Fast.tw7334098320491459324 : Unit := ()
def PySem.W.Fast.tw7301041991938650647 : Unit := ()
def PySem.W.Fast.tw5846974579220907117 : Unit := ()
def PySem.W.Fast.tw11491160120593564068 : Unit := ()
def PySem.W.Fast.tw15047473842778116491 : Unit := ()
def PySem.W.Fast.tw13450549664054328301 : Unit := ()
def PySem.W.Fast.tw10434424383151439750 : Unit := ()
def PySem.W.Fast.tw6888717921673652230 : Unit := ()
def PySem.W.Fast.tw15573170028128141608 : Unit := ()
def PySem.W.Fast.tw10310721955426890091 : Unit := ()
def PySem.W.Fast.tw7051513831430765831 : Unit := ()
def PySem.W.Fast.tw7632759694737049959 : Unit := ()
def PySem.W.Fast.tw13558276291166350094 : Unit := ()
def PySem.W.Fast.tw15119973311817184591 : Unit := ()
def PySem.W.Fast.tw2091090806479530519 : Unit := ()
def PySem.W.Fast.tw8083567026885320030 : Unit := ()
def PySem.W.Fast.tw6324921081994513226 : Unit := ()
def PySem.W.Fast.tw7538713183123231969 : Unit := ()
def PySem.W.Fast.tw10973682381136477445 : Unit := ()
def PySem.W.Fast.tw1407291545055718028 : Unit := ()
def PySem.W.Fast.tw13860444362464578774 : Unit := ()
def PySem.W.Fast.tw18029353981753025541 : Unit := ()
def PySem.W.Fast.tw2156136262117381466 : Unit := ()
def PySem.W.Fast.tw6335991048261888961 : Unit := ()
def PySem.W.Fast.tw6872230141805871321 : Unit := ()
def PySem.W.Fast.tw395123097984940383 : Unit := ()
def PySem.W.Fast.tw143980519883593112 : Unit := ()
def PySem.W.Fast.tw10258031229691167982 : Unit := ()
def PySem.W.Fast.tw6517865453352491497 : Unit := ()
def PySem.W.Fast.tw5583181744968990757 : Unit := ()
def PySem.W.Fast.tw14366682310238315060 : Unit := ()
def PySem.W.Fast.tw2336238343479838818 : Unit := ()
def PySem.W.Fast.tw9200018594187172735 : Unit := ()
def PySem.W.Fast.tw7005113312714569673 : Unit := ()
def PySem.W.Fast.tw8165351297044461309 : Unit := ()
def PySem.W.Fast.tw11128043199179369796 : Unit := ()
def PySem.W.Fast.tw7081678390482444764 : Unit := ()
def PySem.W.Fast.tw20619314444797517 : Unit := ()
def PySem.W.Fast.tw8110146254835014643 : Unit := ()
def PySem.W.Fast.tw6177823157984556284 : Unit := ()
def PySem.W.Fast.tw16345831150810399826 : Unit := ()
def PySem.W.Fast.tw9477963641059036577 : Unit := ()
def PySem.W.Fast.tw9143231630668985128 : Unit := ()
def PySem.W.Fast.tw4257668623458220993 : Unit := ()
def PySem.W.Fast.tw7145829592249176116 : Unit := ()
def PySem.W.Fast.tw15652926044470568301 : Unit := ()
def PySem.W.Fast.tw2957844336224127621 : Unit := ()
def PySem.W.Fast.tw13600080359522270488 : Unit := ()
def PySem.W.Fast.tw12641716353307370393 : Unit := ()
def PySem.W.Fast.tw4354578819768334742 : Unit := ()
def PySem.W.Fast.tw1387587514437973597 : Unit := ()
def PySem.W.Fast.tw4470161067241088841 : Unit := ()
def PySem.W.Fast.tw5049726945220189112 : Unit := ()
def PySem.W.Fast.tw2378279699445609742 : Unit := ()
def PySem.W.Fast.tw15666085678294320062 : Unit := ()
def PySem.W.Fast.tw7392090237213664512 : Unit := ()
def PySem.W.Fast.tw6068510947130825741 : Unit := ()
def PySem.W.Fast.tw9506107562493253113 : Unit := ()
def PySem.W.Fast.tw15004732661301412298 : Unit := ()
def PySem.W.Fast.tw1952267462283133662 : Unit := ()
def PySem.W.Fast.tw13243814862852797564 : Unit := ()
def PySem.W.Fast.tw3195177470229732735 : Unit := ()
def PySem.W.Fast.tw3379872302849812899 : Unit := ()
def PySem.W.Fast.tw14335417065597402571 : Unit := ()
def PySem.W.Fast.tw3263876848544937761 : Unit := ()
def PySem.W.Fast.tw9354424079022978136 : Unit := ()
def PySem.W.Fast.tw7974708860968580112 : Unit := ()
def PySem.W.Fast.tw4773604952198082862 : Unit := ()
def PySem.W.Fast.tw8703400253252728016 : Unit := ()
def PySem.W.Fast.tw6758225728850219156 : Unit := ()
def PySem.W.Fast.tw18387667155109253178 : Unit := ()
def PySem.W.Fast.tw17298643668373806803 : Unit := ()
def PySem.W.Fast.tw2805021979728530572 : Unit := ()
def PySem.W.Fast.tw9067383684100377494 : Unit := ()
def PySem.W.Fast.tw17712162992414840117 : Unit := ()
def PySem.W.Fast.tw6269602374433687742 : Unit := ()
def PySem.W.Fast.tw13891567632870313843 : Unit := ()
def PySem.W.Fast.tw18083317420465874721 : Unit := ()
def PySem.W.Fast.tw10409521522604158535 : Unit := ()
def PySem.W.Fast.tw1518925851995687851 : Unit := ()
def PySem.W.Fast.tw5552682847939425346 : Unit := ()
def PySem.W.Fast.tw1219479961802201923 : Unit := ()
def PySem.W.Fast.tw10466781955833666973 : Unit := ()
def PySem.W.Fast.tw10273778009549823880 : Unit := ()
def PySem.W.Fast.tw10830908157331558353 : Unit := ()
def PySem.W.Fast.tw15922223950207197501 : Unit := ()
def PySem.W.Fast.tw4143224075091819738 : Unit := ()
def PySem.W.Fast.tw1211779053175499364 : Unit := ()
def PySem.W.Fast.tw5661151655368660143 : Unit := ()
def PySem.W.Fast.tw7821872288666809775 : Unit := ()
def PySem.W.Fast.tw13708858772733007393 : Unit := ()
def PySem.W.Fast.tw4337175726207518352 : Unit := ()
def PySem.W.Fast.tw4243600124794229489 : Unit := ()
def PySem.W.Fast.tw1773464701123178461 : Unit := ()
def PySem.W.Fast.tw18147031862729485228 : Unit := ()
def PySem.W.Fast.tw6373641380821549302 : Unit := ()
def PySem.W.Fast.tw1060241399250051417 : Unit := ()
def PySem.W.Fast.tw15060668252170650737 : Unit := ()
def PySem.W.Fast.tw16182233363403243699 : Unit := ()
def PySem.W.Fast.tw10627357052536809139 : Unit := ()
def PySem.W.Fast.tw15812707527854951329 : Unit := ()
def PySem.W.Fast.tw16592276165732920547 : Unit := ()
def PySem.W.Fast.tw4654654215536449546 : Unit := ()
def PySem.W.Fast.tw17892525287513850501 : Unit := ()
def PySem.W.Fast.tw3640345186322822830 : Unit := ()
def PySem.W.Fast.tw12766757292829953298 : Unit := ()
def PySem.W.Fast.tw12660205360761567886 : Unit := ()
def PySem.W.Fast.tw8123665276360378453 : Unit := ()
def PySem.W.Fast.tw14573721083505357154 : Unit := ()
def PySem.W.Fast.tw1886473306345319737 : Unit := ()
def PySem.W.Fast.tw4203276678178706874 : Unit := ()
def PySem.W.Fast.tw8504952070056166340 : Unit := ()
def PySem.W.Fast.tw12364324255999848677 : Unit := ()
def PySem.W.Fast.tw9045431785482595951 : Unit := ()
def PySem.W.Fast.tw2770439260951126868 : Unit := ()
def PySem.W.Fast.tw10801832836934497265 : Unit := ()
def PySem.W.Fast.tw8385160117727765813 : Unit := ()
def PySem.W.Fast.tw239001760991132481 : Unit := ()
def PySem.W.Fast.tw5132974236363373266 : Unit := ()
def PySem.W.Fast.tw8778885025354627576 : Unit := ()
def PySem.W.Fast.tw1810116586550257013 : Unit := ()
def PySem.W.Fast.tw1860163136696366076 : Unit := ()
def PySem.W.Fast.tw903565726091185094 : Unit := ()
def PySem.W.Fast.tw15515830717228466752 : Unit := ()
def PySem.W.Fast.tw3388971821574305793 : Unit := ()
def PySem.W.Fast.tw429995146595385417 : Unit := ()
def PySem.W.Fast.tw1055119250665398407 : Unit := ()
def PySem.W.Fast.tw4496624288123273524 : Unit := ()
def PySem.W.Fast.tw10023925626241380421 : Unit := ()
def PySem.W.Fast.tw9160941237425475722 : Unit := ()
def PySem.W.Fast.tw6870229848661558945 : Unit := ()
def PySem.W.Fast.tw1709217260868972778 : Unit := ()
def PySem.W.Fast.tw7330467891646255117 : Unit := ()
def PySem.W.Fast.tw16797105759349371692 : Unit := ()
def PySem.W.Fast.tw12369010750214905050 : Unit := ()
def PySem.W.Fast.tw13372683717266811775 : Unit := ()
def PySem.W.Fast.tw18434105213306119890 : Unit := ()
def PySem.W.Fast.tw2529387133320408079 : Unit := ()
def PySem.W.Fast.tw17961091728652109339 : Unit := ()
def PySem.W.Fast.tw11254867538229249959 : Unit := ()
def PySem.W.Fast.tw4222508309781501830 : Unit := ()
def PySem.W.Fast.tw5811078187473954457 : Unit := ()
def PySem.W.Fast.tw17525370117949252539 : Unit := ()
def PySem.W.Fast.tw3179810784246895546 : Unit := ()
def PySem.W.Fast.tw4883627808747115703 : Unit := ()
def PySem.W.Fast.tw17783780306814644553 : Unit := ()
def PySem.W.Fast.tw14260472086720511914 : Unit := ()
def PySem.W.Fast.tw1064484996863206896 : Unit := ()
def PySem.W.Fast.tw11619277077172037871 : Unit := ()
def PySem.W.Fast.tw2440292026327010786 : Unit := ()
def PySem.W.Fast.tw11257913563939945708 : Unit := ()
def PySem.W.Fast.tw18009278794077637005 : Unit := ()
def PySem.W.Fast.tw6106352955473249145 : Unit := ()
def PySem.W.Fast.tw417802134813555336 : Unit := ()
def PySem.W.Fast.tw288241808123297705 : Unit := ()
def PySem.W.Fast.tw2925603113369561595 : Unit := ()
def PySem.W.Fast.tw17011686964680553790 : Unit := ()
def PySem.W.Fast.tw1340251023247606365 : Unit := ()
def PySem.W.Fast.tw9411413573785590968 : Unit := ()
def PySem.W.Fast.tw13605929331400628382 : Unit := ()
def PySem.W.Fast.tw15789700958237359773 : Unit := ()
def PySem.W.Fast.tw15939992614408054999 : Unit := ()
def PySem.W.Fast.tw15182728249142081639 : Unit := ()
def PySem.W.Fast.tw8540932866548208273 : Unit := ()
def PySem.W.Fast.tw3055350027089681962 : Unit := ()
def PySem.W.Fast.tw5792280853405432582 : Unit := ()
def PySem.W.Fast.tw8098106281161892819 : Unit := ()
def PySem.W.Fast.tw14413740034372851802 : Unit := ()
def PySem.W.Fast.tw11057056733700673402 : Unit := ()
def PySem.W.Fast.tw13350361104083223278 : Unit := ()
def PySem.W.Fast.tw985441442248261172 : Unit := ()
def PySem.W.Fast.tw10847415403096757614 : Unit := ()
def PySem.W.Fast.tw972293275981452020 : Unit := ()
def PySem.W.Fast.tw2949922399563187550 : Unit := ()
def PySem.W.Fast.tw5311977318111672547 : Unit := ()
def PySem.W.Fast.tw11706345432567013566 : Unit := ()
def PySem.W.Fast.tw3539835339753287717 : Unit := ()
def PySem.W.Fast.tw1556281241274184918 : Unit := ()
def PySem.W.Fast.tw379228933965910055 : Unit := ()
def PySem.W.Fast.tw1099944267196012552 : Unit := ()
def PySem.W.Fast.tw10341551299178035929 : Unit := ()
def PySem.W.Fast.tw5693133045402325654 : Unit := ()
def PySem.W.Fast.tw2605605468902086494 : Unit := ()
def PySem.W.Fast.tw5262125738121375163 : Unit := ()
def PySem.W.Fast.tw6655540959980578128 : Unit := ()
def PySem.W.Fast.tw2430068706121022465 : Unit := ()
def PySem.W.Fast.tw4421114192335918121 : Unit := ()
def PySem.W.Fast.tw1616571133572239182 : Unit := ()
def PySem.W.Fast.tw15473007687150446831 : Unit := ()
def PySem.W.Fast.tw13419458484680724537 : Unit := ()
def PySem.W.Fast.tw6409161636890101176 : Unit := ()
def PySem.W.Fast.tw1253001462546017034 : Unit := ()
def PySem.W.Fast.tw13440384608438023486 : Unit := ()
def PySem.W.Fast.tw5102050686721060036 : Unit := ()
def PySem.W.Fast.tw15940257389227640975 : Unit := ()
def PySem.W.Fast.tw865547498862572672 : Unit := ()
def PySem.W.Fast.tw8324098724184165482 : Unit := ()
def PySem.W.Fast.tw11379253466729437469 : Unit := ()
def PySem.W.Fast.tw8775962934631045992 : Unit := ()
def PySem.W.Fast.tw3366654119781695258 : Unit := ()
def PySem.W.Fast.tw3815473487897645975 : Unit := ()
def PySem.W.Fast.tw812048929498973273 : Unit := ()
def PySem.W.Fast.tw5818223592890842271 : Unit := ()
def PySem.W.Fast.tw141905663831289642 : Unit := ()
def PySem.W.Fast.tw2839637530900323313 : Unit := ()
def PySem.W.Fast.tw14188623231843005701 : Unit := ()
def PySem.W.Fast.tw10378098250289597181 : Unit := ()
def PySem.W.Fast.tw5380588993064445329 : Unit := ()
def PySem.W.Fast.tw3176008374943908852 : Unit := ()
def PySem.W.Fast.tw11911808866691096496 : Unit := ()
def PySem.W.Fast.tw5738348576891511300 : Unit := ()
def PySem.W.Fast.tw8663241956761627300 : Unit := ()
def PySem.W.Fast.tw5412268935110286707 : Unit := ()
def PySem.W.Fast.tw13506803242387652378 : Unit := ()
def PySem.W.Fast.tw18252659069334931221 : Unit := ()
def PySem.W.Fast.tw12791152533440418089 : Unit := ()
def PySem.W.Fast.tw5431595587458128085 : Unit := ()
def PySem.W.Fast.tw12684309135798010543 : Unit := ()
def PySem.W.Fast.tw1950170517512378285 : Unit := ()
def PySem.W.Fast.tw16794067384977044068 : Unit := ()
def PySem.W.Fast.tw16374588251992360812 : Unit := ()
def PySem.W.Fast.tw5300915204635279731 : Unit := ()
def PySem.W.Fast.tw15907849223864062542 : Unit := ()
def PySem.W.Fast.tw734694125171865480 : Unit := ()
def PySem.W.Fast.tw277540274689784933 : Unit := ()
def PySem.W.Fast.tw17162533787689626532 : Unit := ()
def PySem.W.Fast.tw13385273108691444315 : Unit := ()
def PySem.W.Fast.tw9197630596488463150 : Unit := ()
def PySem.W.Fast.tw4547334151460092114 : Unit := ()
def PySem.W.Fast.tw15096329757612499920 : Unit := ()
def PySem.W.Fast.tw4674838637841581784 : Unit := ()
def PySem.W.Fast.tw16306265378609102516 : Unit := ()
def PySem.W.Fast.tw16908913218692890714 : Unit := ()
def PySem.W.Fast.tw5390505858729190918 : Unit := ()
def PySem.W.Fast.tw9176819348891054868 : Unit := ()
def PySem.W.Fast.tw761274191827006007 : Unit := ()
def PySem.W.Fast.tw10037051205437692999 : Unit := ()
def PySem.W.Fast.tw7310791755443246429 : Unit := ()
def PySem.W.Fast.tw13177917728683100979 : Unit := ()
def PySem.W.Fast.tw1568489891696842306 : Unit := ()
def PySem.W.Fast.tw7590081299828242513 : Unit := ()
def PySem.W.Fast.tw4973963214840152328 : Unit := ()
def PySem.W.Fast.tw2000825385934889621 : Unit := ()
def PySem.W.Fast.tw8448231434886333626 : Unit := ()
def PySem.W.Fast.tw2731114831564032826 : Unit := ()
def PySem.W.Fast.tw10905449279129436422 : Unit := ()
def PySem.W.Fast.tw1149194471744383887 : Unit := ()
def PySem.W.Fast.tw6311459581561292886 : Unit := ()
def PySem.W.Fast.tw15793809042177976597 : Unit := ()
def PySem.W.Fast.tw11772374498550450929 : Unit := ()
def PySem.W.Fast.tw181559512857091571 : Unit := ()
def PySem.W.Fast.tw2591744944687994098 : Unit := ()
def PySem.W.Fast.tw5474776090048450482 : Unit := ()
def PySem.W.Fast.tw11362414360986241928 : Unit := ()
def PySem.W.Fast.tw4151449315353353299 : Unit := ()
def PySem.W.Fast.tw2889455144761748665 : Unit := ()
def PySem.W.Fast.tw11421672845454475877 : Unit := ()
def PySem.W.Fast.tw5236084527921632311 : Unit := ()
def PySem.W.Fast.tw6457812863867608418 : Unit := ()
def PySem.W.Fast.tw17497017868269668354 : Unit := ()
def PySem.W.Fast.tw3982609899516240232 : Unit := ()
def PySem.W.Fast.tw16123345165601766731 : Unit := ()
def PySem.W.Fast.tw13433865904365627938 : Unit := ()
def PySem.W.Fast.tw10470988487886857140 : Unit := ()
def PySem.W.Fast.tw16775258191165678870 : Unit := ()
def PySem.W.Fast.tw12299023109444229831 : Unit := ()
def PySem.W.Fast.tw14726200428104571488 : Unit := ()
def PySem.W.Fast.tw2573647018457993886 : Unit := ()
def PySem.W.Fast.tw2091960131356768136 : Unit := ()
def PySem.W.Fast.tw6136953034238063494 : Unit := ()
def PySem.W.Fast.tw1220950240143032201 : Unit := ()
def PySem.W.Fast.tw12635247417620410091 : Unit := ()
def PySem.W.Fast.tw8168615147025264201 : Unit := ()
def PySem.W.Fast.tw4155242424463170882 : Unit := ()
def PySem.W.Fast.tw4410136196835371980 : Unit := ()
def PySem.W.Fast.tw7143867757430337209 : Unit := ()
def PySem.W.Fast.tw7334109069992986475 : Unit := ()
def PySem.W.Fast.tw11618216263433002390 : Unit := ()
def PySem.W.Fast.tw14496272955751342190 : Unit := ()
def PySem.W.Fast.tw2143800458824170111 : Unit := ()
def PySem.W.Fast.tw5788033327263853561 : Unit := ()
def PySem.W.Fast.tw6511280728356261926 : Unit := ()
def PySem.W.Fast.tw282715394687026710 : Unit := ()
def PySem.W.Fast.tw8231504424403822433 : Unit := ()
def PySem.W.Fast.tw226005879196524243 : Unit := ()
def PySem.W.Fast.tw13677302484135724145 : Unit := ()
def PySem.W.Fast.tw17331603542758591065 : Unit := ()
def PySem.W.Fast.tw1723467956916532683 : Unit := ()
def PySem.W.Fast.tw12921605328855736938 : Unit := ()
def PySem.W.Fast.tw17163886832887901222 : Unit := ()
def PySem.W.Fast.tw832991247277030649 : Unit := ()
def PySem.W.Fast.tw16157849220045908442 : Unit := ()
def PySem.W.Fast.tw12645887900528405570 : Unit := ()
def PySem.W.Fast.tw1550940493505622541 : Unit := ()
def PySem.W.Fast.tw12416390887957811747 : Unit := ()
def PySem.W.Fast.tw7897035407648152787 : Unit := ()
def PySem.W.Fast.tw3748690906825646819 : Unit := ()
def PySem.W.Fast.tw12180560060257846321 : Unit := ()
def PySem.W.Fast.tw5938341232780058990 : Unit := ()
def PySem.W.Fast.tw16817169693234789443 : Unit := ()
def PySem.W.Fast.tw716240933217377245 : Unit := ()
def PySem.W.Fast.tw11782840428812609105 : Unit := ()
def PySem.W.Fast.tw14311287723616245410 : Unit := ()
def PySem.W.Fast.tw11241253749024845139 : Unit := ()
def PySem.W.Fast.tw15838604278185019157 : Unit := ()
def PySem.W.Fast.tw14804975391919241296 : Unit := ()
def PySem.W.Fast.tw8527563169660889794 : Unit := ()
def PySem.W.Fast.tw14071215401560797835 : Unit := ()
def PySem.W.Fast.tw11099575016714548538 : Unit := ()
def PySem.W.Fast.tw13832108055604060033 : Unit := ()
def PySem.W.Fast.tw9605575904307180906 : Unit := ()
def PySem.W.Fast.tw13972235620538685713 : Unit := ()
def PySem.W.Fast.tw5161785603188281886 : Unit := ()
def PySem.W.Fast.tw378981822468219691 : Unit := ()
def PySem.W.Fast.tw7402802667220492912 : Unit := ()
def PySem.W.Fast.tw14847088946462096018 : Unit := ()
def PySem.W.Fast.tw8271459557977286298 : Unit := ()
def PySem.W.Fast.tw663942916325215311 : Unit := ()
def PySem.W.Fast.tw2266497079066044531 : Unit := ()
def PySem.W.Fast.tw534593274712892509 : Unit := ()
def PySem.W.Fast.tw13116574525391524313 : Unit := ()
def PySem.W.Fast.tw8978239322528011817 : Unit := ()
def PySem.W.Fast.tw7537250161392500160 : Unit := ()
def PySem.W.Fast.tw16993306668051904654 : Unit := ()
def PySem.W.Fast.tw2297131999406257227 : Unit := ()
def PySem.W.Fast.tw2541114303399668465 : Unit := ()
def PySem.W.Fast.tw116034514639280001 : Unit := ()
def PySem.W.Fast.tw2471760355228308454 : Unit := ()
def PySem.W.Fast.tw5574949815105083459 : Unit := ()
def PySem.W.Fast.tw8722401937894735897 : Unit := ()
def PySem.W.Fast.tw5983117056678679757 : Unit := ()
def PySem.W.Fast.tw521730689042455257 : Unit := ()
def PySem.W.Fast.tw15496425806885476183 : Unit := ()
def PySem.W.Fast.tw2934797668758529480 : Unit := ()
def PySem.W.Fast.tw12348658512505850463 : Unit := ()
def PySem.W.Fast.tw18207006914306589653 : Unit := ()
def PySem.W.Fast.tw3511229027977798916 : Unit := ()
def PySem.W.Fast.tw8777203887858425991 : Unit := ()
def PySem.W.Fast.tw18100575076457039985 : Unit := ()
def PySem.W.Fast.tw7739649443532373755 : Unit := ()
def PySem.W.Fast.tw8073467388081061025 : Unit := ()
def PySem.W.Fast.tw10196722568678987415 : Unit := ()
def PySem.W.Fast.tw8083888330319804144 : Unit := ()
def PySem.W.Fast.tw15462613203885755959 : Unit := ()
def PySem.W.Fast.tw2072639735012391440 : Unit := ()
def PySem.W.Fast.tw7848054505259718665 : Unit := ()
def PySem.W.Fast.tw4315188837086399826 : Unit := ()
def PySem.W.Fast.tw4787159045675113928 : Unit := ()
def PySem.W.Fast.tw12297712731009388424 : Unit := ()
def PySem.W.Fast.tw16074959572161945500 : Unit := ()
def PySem.W.Fast.tw6285710739594200937 : Unit := ()
def PySem.W.Fast.tw15589189659900291823 : Unit := ()
def PySem.W.Fast.tw5464010007912952973 : Unit := ()
def PySem.W.Fast.tw13026389844222250444 : Unit := ()
def PySem.W.Fast.tw14846607803952795951 : Unit := ()
def PySem.W.Fast.tw8209259239787910678 : Unit := ()
def PySem.W.Fast.tw17266292026484297839 : Unit := ()
def PySem.W.Fast.tw11084485098183607712 : Unit := ()
def PySem.W.Fast.tw13124828604670561149 : Unit := ()
def PySem.W.Fast.tw14641812088369759432 : Unit := ()
def PySem.W.Fast.tw3839566287159096233 : Unit := ()
def PySem.W.Fast.tw10735219946370056464 : Unit := ()
def PySem.W.Fast.tw3915538307787088680 : Unit := ()
def PySem.W.Fast.tw2771182785637853184 : Unit := ()
def PySem.W.Fast.tw16684478110757493422 : Unit := ()
def PySem.W.Fast.tw3676978327577107959 : Unit := ()
def PySem.W.Fast.tw7828208377778783241 : Unit := ()
def PySem.W.Fast.tw8133930561479647574 : Unit := ()
def PySem.W.Fast.tw16630526855756473174 : Unit := ()
def PySem.W.Fast.tw9613442839212998838 : Unit := ()
def PySem.W.Fast.tw8325926827137518376 : Unit := ()
def PySem.W.Fast.tw8248782941268642988 : Unit := ()
def PySem.W.Fast.tw8240923976960987156 : Unit := ()
def PySem.W.Fast.tw9827809799001593719 : Unit := ()
def PySem.W.Fast.tw16847742174343589981 : Unit := ()
def PySem.W.Fast.tw6940728215655512054 : Unit := ()
def PySem.W.Fast.tw12508309746056729297 : Unit := ()
def PySem.W.Fast.tw1469010578607192507 : Unit := ()
def PySem.W.Fast.tw10595420398056650906 : Unit := ()
def PySem.W.Fast.tw9957382590666744056 : Unit := ()
def PySem.W.Fast.tw13746398187746311092 : Unit := ()
def PySem.W.Fast.tw7262672409201662251 : Unit := ()
def PySem.W.Fast.tw2002036638746845500 : Unit := ()
def PySem.W.Fast.tw8410291431901559007 : Unit := ()
def PySem.W.Fast.tw13667743907504166492 : Unit := ()
def PySem.W.Fast.tw7419534077937858685 : Unit := ()
def PySem.W.Fast.tw17606455574210199854 : Unit := ()
def PySem.W.Fast.tw10669921266554856481 : Unit := ()
def PySem.W.Fast.tw1627136893509589845 : Unit := ()
def PySem.W.Fast.tw18099740769368196147 : Unit := ()
def PySem.W.Fast.tw11089021567571576935 : Unit := ()
def PySem.W.Fast.tw14666498537868415396 : Unit := ()
def PySem.W.Fast.tw9979105460642438155 : Unit := ()
def PySem.W.Fast.tw7581413517873467558 : Unit := ()
def PySem.W.Fast.tw7977892967425764709 : Unit := ()
def PySem.W.Fast.tw18234592766096525247 : Unit := ()
def PySem.W.Fast.tw15205089187721765174 : Unit := ()
def PySem.W.Fast.tw6318465885241546012 : Unit := ()
def PySem.W.Fast.tw11002801840148945762 : Unit := ()
def PySem.W.Fast.tw13952206370323153468 : Unit := ()
def PySem.W.Fast.tw6810150867391024356 : Unit := ()
def PySem.W.Fast.tw4132087714129525717 : Unit := ()
def PySem.W.Fast.tw7822193954195596487 : Unit := ()
def PySem.W.Fast.tw1993149739183127110 : Unit := ()
def PySem.W.Fast.tw7549339099273816651 : Unit := ()
def PySem.W.Fast.tw4930242400166689661 : Unit := ()
def PySem.W.Fast.tw6073403936235799548 : Unit := ()
def PySem.W.Fast.tw401987255334855734 : Unit := ()
def PySem.W.Fast.tw6058471959907896139 : Unit := ()
def PySem.W.Fast.tw868959657342389902 : Unit := ()
def PySem.W.Fast.tw12917438331913906540 : Unit := ()
def PySem.W.Fast.tw10719244507861064434 : Unit := ()
def PySem.W.Fast.tw17385778842456351140 : Unit := ()
def PySem.W.Fast.tw15530644503155043999 : Unit := ()
def PySem.W.Fast.tw722376869607840946 : Unit := ()
def PySem.W.Fast.tw3876887894962879141 : Unit := ()
def PySem.W.Fast.tw11583897307515415677 : Unit := ()
def PySem.W.Fast.tw14313029327950797522 : Unit := ()
def PySem.W.Fast.tw5610290971656579684 : Unit := ()
def PySem.W.Fast.tw7869278522454411421 : Unit := ()
def PySem.W.Fast.tw13779025018307139137 : Unit := ()
def PySem.W.Fast.tw6800704928605262622 : Unit := ()
def PySem.W.Fast.tw15596701052142042289 : Unit := ()
def PySem.W.Fast.tw10491176731240243425 : Unit := ()
def PySem.W.Fast.tw15513736724542274558 : Unit := ()
def PySem.W.Fast.tw2307345405793422820 : Unit := ()
def PySem.W.Fast.tw13908772523786249875 : Unit := ()
def PySem.W.Fast.tw7966489679990471570 : Unit := ()
def PySem.W.Fast.tw3253810252468674245 : Unit := ()
def PySem.W.Fast.tw3735367936975721220 : Unit := ()
def PySem.W.Fast.tw9866435785726279878 : Unit := ()
def PySem.W.Fast.tw9704049693989098344 : Unit := ()
def PySem.W.Fast.tw10515891300612659293 : Unit := ()
def PySem.W.Fast.tw4114285913751359974 : Unit := ()
def PySem.W.Fast.tw3737899309100334516 : Unit := ()
def PySem.W.Fast.tw5523645564326299002 : Unit := ()
def PySem.W.Fast.tw7374443219632772894 : Unit := ()
def PySem.W.Fast.tw4350337167736998907 : Unit := ()
def PySem.W.Fast.tw1667849728380719552 : Unit := ()
def PySem.W.Fast.tw6531626639957659573 : Unit := ()
def PySem.W.Fast.tw6834446728312998350 : Unit := ()
def PySem.W.Fast.tw8103655972829580480 : Unit := ()
def PySem.W.Fast.tw518609915745593248 : Unit := ()
def PySem.W.Fast.tw14073391219291265153 : Unit := ()
def PySem.W.Fast.tw5545211428933546378 : Unit := ()
def PySem.W.Fast.tw12201882091945947779 : Unit := ()
def PySem.W.Fast.tw12159197873401840617 : Unit := ()
def PySem.W.Fast.tw11650477174320847623 : Unit := ()
def PySem.W.Fast.tw16365026964353822724 : Unit := ()
def PySem.W.Fast.tw10095374060150572146 : Unit := ()
def PySem.W.Fast.tw16888651691134065302 : Unit := ()
def PySem.W.Fast.tw17207456549294668763 : Unit := ()
def PySem.W.Fast.tw4410838818250736052 : Unit := ()
def PySem.W.Fast.tw17313081563867807476 : Unit := ()
def PySem.W.Fast.tw2979749609781905879 : Unit := ()
def PySem.W.Fast.tw9783500202826724049 : Unit := ()
def PySem.W.Fast.tw14482131022593853075 : Unit := ()
def PySem.W.Fast.tw5410594156661846471 : Unit := ()
def PySem.W.Fast.tw7464017714354921094 : Unit := ()
def PySem.W.Fast.tw16862734589660397139 : Unit := ()
def PySem.W.Fast.tw12738486230670614317 : Unit := ()
def PySem.W.Fast.tw13259180014815440204 : Unit := ()
def PySem.W.Fast.tw959945662212111794 : Unit := ()
def PySem.W.Fast.tw9589848170100100798 : Unit := ()
def PySem.W.Fast.tw14810795273930311152 : Unit := ()
def PySem.W.Fast.tw17212258146313779580 : Unit := ()
def PySem.W.Fast.tw17469238963863646226 : Unit := ()
def PySem.W.Fast.tw17193174653093296704 : Unit := ()
def PySem.W.Fast.tw23359468168324032 : Unit := ()
def PySem.W.Fast.tw9015243407810124472 : Unit := ()
def PySem.W.Fast.tw845936358778244950 : Unit := ()
def PySem.W.Fast.tw12372176696387521512 : Unit := ()
def PySem.W.Fast.tw11176894379830149581 : Unit := ()
def PySem.W.Fast.tw11390966471096904865 : Unit := ()
def PySem.W.Fast.tw14677860498120485570 : Unit := ()
def PySem.W.Fast.tw6442578817866831054 : Unit := ()
def PySem.W.Fast.tw14471508828176089959 : Unit := ()
def PySem.W.Fast.tw18031596611458628897 : Unit := ()
def PySem.W.Fast.tw18161894835748563231 : Unit := ()
def PySem.W.Fast.tw10330489076478475959 : Unit := ()
def PySem.W.Fast.tw2043314245217781248 : Unit := ()
def PySem.W.Fast.tw12956127568596835020 : Unit := ()
def PySem.W.Fast.tw12949475813485407100 : Unit := ()
def PySem.W.Fast.tw16407843497267162309 : Unit := ()
def PySem.W.Fast.tw7397585675877725605 : Unit := ()
def PySem.W.Fast.tw605630878092422340 : Unit := ()
def PySem.W.Fast.tw5438435553344927654 : Unit := ()
def PySem.W.Fast.tw5908979923543747267 : Unit := ()
def PySem.W.Fast.tw11111855853001515643 : Unit := ()
def PySem.W.Fast.tw16596962296688308633 : Unit := ()
def PySem.W.Fast.tw16022109986496111501 : Unit := ()
def PySem.W.Fast.tw7948855514809719334 : Unit := ()
def PySem.W.Fast.tw8776550221475699021 : Unit := ()
def PySem.W.Fast.tw7461053526361740808 : Unit := ()
def PySem.W.Fast.tw3778188640740212449 : Unit := ()
def PySem.W.Fast.tw9703589840198804130 : Unit := ()
def PySem.W.Fast.tw10208541932329417668 : Unit := ()
def PySem.W.Fast.tw2258762416780829814 : Unit := ()
def PySem.W.Fast.tw2275457293284179621 : Unit := ()
def PySem.W.Fast.tw11472986156586399842 : Unit := ()
def PySem.W.Fast.tw9461264964462651974 : Unit := ()
def PySem.W.Fast.tw3650950571338558860 : Unit := ()
def PySem.W.Fast.tw3907392986674277125 : Unit := ()
def PySem.W.Fast.tw6664980995737272413 : Unit := ()
def PySem.W.Fast.tw4378245271874857583 : Unit := ()
def PySem.W.Fast.tw312308257922743962 : Unit := ()
def PySem.W.Fast.tw2905296908509540102 : Unit := ()
def PySem.W.Fast.tw13991866229525631193 : Unit := ()
def PySem.W.Fast.tw14283106006383321085 : Unit := ()
def PySem.W.Fast.tw12116047572416273755 : Unit := ()
def PySem.W.Fast.tw11950581847667385646 : Unit := ()
def PySem.W.Fast.tw16093454439679880860 : Unit := ()
def PySem.W.Fast.tw2643292604784542836 : Unit := ()
def PySem.W.Fast.tw16994825264670305294 : Unit := ()
def PySem.W.Fast.tw3878430350393833195 : Unit := ()
def PySem.W.Fast.tw9182015919389623919 : Unit := ()
def PySem.W.Fast.tw5103163591591770749 : Unit := ()
def PySem.W.Fast.tw16050028733178846763 : Unit := ()
def PySem.W.Fast.tw3745365574573901717 : Unit := ()
def PySem.W.Fast.tw15250875035380467955 : Unit := ()
def PySem.W.Fast.tw13479730947634569938 : Unit := ()
def PySem.W.Fast.tw6445073178763012349 : Unit := ()
def PySem.W.Fast.tw9271758596816643883 : Unit := ()
def PySem.W.Fast.tw11414300349484057093 : Unit := ()
def PySem.W.Fast.tw10601750666666609877 : Unit := ()
def PySem.W.Fast.tw17492639022137127331 : Unit := ()
def PySem.W.Fast.tw17114713652211329042 : Unit := ()
def PySem.W.Fast.tw18198081143119079230 : Unit := ()
def PySem.W.Fast.tw15011229834172432555 : Unit := ()
def PySem.W.Fast.tw13380164825597665104 : Unit := ()
def PySem.W.Fast.tw17669108829208434299 : Unit := ()
def PySem.W.Fast.tw17414520293677967179 : Unit := ()
def PySem.W.Fast.tw3727045443438009849 : Unit := ()
def PySem.W.Fast.tw13856535434670994055 : Unit := ()
def PySem.W.Fast.tw11450012473320669843 : Unit := ()
def PySem.W.Fast.tw13965494290798830466 : Unit := ()
def PySem.W.Fast.tw702238557493644476 : Unit := ()
def PySem.W.Fast.tw8479937874858328127 : Unit := ()
def PySem.W.Fast.tw8427460568130743046 : Unit := ()
def PySem.W.Fast.tw5647728616435894342 : Unit := ()
def PySem.W.Fast.tw18259092447682680193 : Unit := ()
def PySem.W.Fast.tw16573077276514394222 : Unit := ()
def PySem.W.Fast.tw3206294024497486957 : Unit := ()
def PySem.W.Fast.tw8852392213680994653 : Unit := ()
def PySem.W.Fast.tw17910375217428858541 : Unit := ()
def PySem.W.Fast.tw7940290207469078232 : Unit := ()
def PySem.W.Fast.tw8204267690825517603 : Unit := ()
def PySem.W.Fast.tw13144657571287123893 : Unit := ()
def PySem.W.Fast.tw12698849972828427855 : Unit := ()
def PySem.W.Fast.tw11917737244502602329 : Unit := ()
def PySem.W.Fast.tw7174178406573128615 : Unit := ()
def PySem.W.Fast.tw2124149558992058808 : Unit := ()
def PySem.W.Fast.tw3901351106616061577 : Unit := ()
def PySem.W.Fast.tw7469723843251818258 : Unit := ()
def PySem.W.Fast.tw6315495675886722458 : Unit := ()
def PySem.W.Fast.tw18409301065112050383 : Unit := ()
def PySem.W.Fast.tw13865609224786692438 : Unit := ()
def PySem.W.Fast.tw11396827982940356836 : Unit := ()
def PySem.W.Fast.tw8297652643610731026 : Unit := ()
def PySem.W.Fast.tw1080511609750675113 : Unit := ()
def PySem.W.Fast.tw5539723108551075571 : Unit := ()
def PySem.W.Fast.tw10648560842620218197 : Unit := ()
def PySem.W.Fast.tw5194598942506484122 : Unit := ()
def PySem.W.Fast.tw5936278138288749970 : Unit := ()
def PySem.W.Fast.tw16739430578749341870 : Unit := ()
def PySem.W.Fast.tw16524052516198667194 : Unit := ()
def PySem.W.Fast.tw1005658571921524622 : Unit := ()
def PySem.W.Fast.tw6015466500165397645 : Unit := ()
def PySem.W.Fast.tw5393896641290962986 : Unit := ()
def PySem.W.Fast.tw11741284351520651552 : Unit := ()
def PySem.W.Fast.tw17510773756666998717 : Unit := ()
def PySem.W.Fast.tw295693611771555374 : Unit := ()
def PySem.W.Fast.tw17723286862317677836 : Unit := ()
def PySem.W.Fast.tw12444625968527356504 : Unit := ()
def PySem.W.Fast.tw49109649999042553 : Unit := ()
def PySem.W.Fast.tw1130697802388825733 : Unit := ()
def PySem.W.Fast.tw1851950423230664695 : Unit := ()
def PySem.W.Fast.tw16553945530609909333 : Unit := ()
def PySem.W.Fast.tw8567655567619329831 : Unit := ()
def PySem.W.Fast.tw2057165126476612935 : Unit := ()
def PySem.W.Fast.tw10244834973171089779 : Unit := ()
def PySem.W.Fast.tw2121328193555694652 : Unit := ()
def PySem.W.Fast.tw5834479910872615153 : Unit := ()
def PySem.W.Fast.tw6648393902348765701 : Unit := ()
def PySem.W.Fast.tw13424173357831824704 : Unit := ()
def PySem.W.Fast.tw3449643587416637521 : Unit := ()
def PySem.W.Fast.tw14288988624860577493 : Unit := ()
def PySem.W.Fast.tw4397640225685495649 : Unit := ()
def PySem.W.Fast.tw5143501449433211033 : Unit := ()
def PySem.W.Fast.tw496755551148979322 : Unit := ()
def PySem.W.Fast.tw9176424223199203749 : Unit := ()
def PySem.W.Fast.tw5846319772637923989 : Unit := ()
def PySem.W.Fast.tw138923513272556032 : Unit := ()
def PySem.W.Fast.tw1332653485215495921 : Unit := ()
def PySem.W.Fast.tw14343915614126831578 : Unit := ()
def PySem.W.Fast.tw17267629717831688727 : Unit := ()
def PySem.W.Fast.tw11687038597088077453 : Unit := ()
def PySem.W.Fast.tw15862836643014319722 : Unit := ()
def PySem.W.Fast.tw10953180269804246015 : Unit := ()
def PySem.W.Fast.tw11056423111851691243 : Unit := ()
def PySem.W.Fast.tw7868503822135814075 : Unit := ()
def PySem.W.Fast.tw12283763662891918881 : Unit := ()
def PySem.W.Fast.tw2724949027567491424 : Unit := ()
def PySem.W.Fast.tw4689047622756835027 : Unit := ()
def PySem.W.Fast.tw2566558210568725378 : Unit := ()
def PySem.W.Fast.tw16576885720769107363 : Unit := ()
def PySem.W.Fast.tw7955534558300804897 : Unit := ()
def PySem.W.Fast.tw807879347579269153 : Unit := ()
def PySem.W.Fast.tw1597189132548455308 : Unit := ()
def PySem.W.Fast.tw6780979016980531512 : Unit := ()
def PySem.W.Fast.tw11233349451753075540 : Unit := ()
def PySem.W.Fast.tw14338307620318774412 : Unit := ()
def PySem.W.Fast.tw14851074053996077976 : Unit := ()
def PySem.W.Fast.tw8338406121851223597 : Unit := ()
def PySem.W.Fast.tw3213018402457501298 : Unit := ()
def PySem.W.Fast.tw12933731546138659271 : Unit := ()
def PySem.W.Fast.tw5472822002965793728 : Unit := ()
def PySem.W.Fast.tw2929443689612648177 : Unit := ()
def PySem.W.Fast.tw7293639727888692978 : Unit := ()
def PySem.W.Fast.tw11317149476179443593 : Unit := ()
def PySem.W.Fast.tw10541826533196762958 : Unit := ()
def PySem.W.Fast.tw16332850314934573394 : Unit := ()
def PySem.W.Fast.tw12311631811995620232 : Unit := ()
def PySem.W.Fast.tw5463656155550473787 : Unit := ()
def PySem.W.Fast.tw2316332806802714960 : Unit := ()
def PySem.W.Fast.tw4296281718723444570 : Unit := ()
def PySem.W.Fast.tw13572383834334885323 : Unit := ()
def PySem.W.Fast.tw559298602166640375 : Unit := ()
def PySem.W.Fast.tw6447952585699794652 : Unit := ()
def PySem.W.Fast.tw18323238376964596225 : Unit := ()
def PySem.W.Fast.tw11119641157740969579 : Unit := ()
def PySem.W.Fast.tw12565868542503563530 : Unit := ()
def PySem.W.Fast.tw2198201031846316942 : Unit := ()
def PySem.W.Fast.tw4600132262877181899 : Unit := ()
def PySem.W.Fast.tw3100093736217155758 : Unit := ()
def PySem.W.Fast.tw5147118289791318197 : Unit := ()
def PySem.W.Fast.tw5059733857260359777 : Unit := ()
def PySem.W.Fast.tw7172786986470375 : Unit := ()
def PySem.W.Fast.tw948371393568773500 : Unit := ()
def PySem.W.Fast.tw16605840519146893326 : Unit := ()
def PySem.W.Fast.tw6713850024460974071 : Unit := ()
def PySem.W.Fast.tw5781596826980973300 : Unit := ()
def PySem.W.Fast.tw1055378719542113530 : Unit := ()
def PySem.W.Fast.tw4997558512659302125 : Unit := ()
def PySem.W.Fast.tw14967608484250263709 : Unit := ()
def PySem.W.Fast.tw12916230120664420576 : Unit := ()
def PySem.W.Fast.tw198846172577151862 : Unit := ()
def PySem.W.Fast.tw731382167312951216 : Unit := ()
def PySem.W.Fast.tw16232026615855107226 : Unit := ()
def PySem.W.Fast.tw2950086295500385342 : Unit := ()
def PySem.W.Fast.tw17348146689698866593 : Unit := ()
def PySem.W.Fast.tw4076747007172551867 : Unit := ()
def PySem.W.Fast.tw8785226304925594551 : Unit := ()
def PySem.W.Fast.tw16269801227638466560 : Unit := ()
def PySem.W.Fast.tw8646978419396683630 : Unit := ()
def PySem.W.Fast.tw14332454503592107509 : Unit := ()
def PySem.W.Fast.tw12811515391002980174 : Unit := ()
def PySem.W.Fast.tw9024567212134422715 : Unit := ()
def PySem.W.Fast.tw6896233172237650573 : Unit := ()
def PySem.W.Fast.tw12398731575281090358 : Unit := ()
def PySem.W.Fast.tw7809098858338342139 : Unit := ()
def PySem.W.Fast.tw14705739592841386730 : Unit := ()
def PySem.W.Fast.tw6182523651452218115 : Unit := ()
def PySem.W.Fast.tw12155390658709330534 : Unit := ()
def PySem.W.Fast.tw8631763258898317060 : Unit := ()
def PySem.W.Fast.tw12439374359764542243 : Unit := ()
def PySem.W.Fast.tw2492924752096520513 : Unit := ()
def PySem.W.Fast.tw2417272545259351032 : Unit := ()
def PySem.W.Fast.tw11819472317682349808 : Unit := ()
def PySem.W.Fast.tw16568380124396237837 : Unit := ()
def PySem.W.Fast.tw2776443646413137622 : Unit := ()
def PySem.W.Fast.tw13013859428527467568 : Unit := ()
def PySem.W.Fast.tw16450185203936718180 : Unit := ()
def PySem.W.Fast.tw16881390518244494994 : Unit := ()
def PySem.W.Fast.tw13240031684493060031 : Unit := ()
def PySem.W.Fast.tw4920253608195048161 : Unit := ()
def PySem.W.Fast.tw5122783456238244666 : Unit := ()
def PySem.W.Fast.tw17823184753263864911 : Unit := ()
def PySem.W.Fast.tw17010196316755427879 : Unit := ()
def PySem.W.Fast.tw17754640345450956304 : Unit := ()
def PySem.W.Fast.tw2732901003331730931 : Unit := ()
def PySem.W.Fast.tw3252636463414848075 : Unit := ()
def PySem.W.Fast.tw1871916940903022621 : Unit := ()
def PySem.W.Fast.tw716908737399679088 : Unit := ()
def PySem.W.Fast.tw14118849991224153175 : Unit := ()
def PySem.W.Fast.tw12756074998562470552 : Unit := ()
def PySem.W.Fast.tw11470548688342386454 : Unit := ()
def PySem.W.Fast.tw5036833812836736288 : Unit := ()
def PySem.W.Fast.tw7556917802585964494 : Unit := ()
def PySem.W.Fast.tw12740243482116361830 : Unit := ()
def PySem.W.Fast.tw8364853606533480236 : Unit := ()
def PySem.W.Fast.tw13400831999189875982 : Unit := ()
def PySem.W.Fast.tw14129023091011043332 : Unit := ()
def PySem.W.Fast.tw5857402378564518511 : Unit := ()
def PySem.W.Fast.tw3431881930297711979 : Unit := ()
def PySem.W.Fast.tw2308469221328005861 : Unit := ()
def PySem.W.Fast.tw2784913277537118571 : Unit := ()
def PySem.W.Fast.tw16153292688155430318 : Unit := ()
def PySem.W.Fast.tw2172772261328397465 : Unit := ()
def PySem.W.Fast.tw3386162194807008978 : Unit := ()
def PySem.W.Fast.tw4991612646618347799 : Unit := ()
def PySem.W.Fast.tw2046664336516538717 : Unit := ()
def PySem.W.Fast.tw127597302527571147 : Unit := ()
def PySem.W.Fast.tw5313493855157308067 : Unit := ()
def PySem.W.Fast.tw18118243496964365942 : Unit := ()
def PySem.W.Fast.tw6977342602263298971 : Unit := ()
def PySem.W.Fast.tw16113637890563851605 : Unit := ()
def PySem.W.Fast.tw14592569859589490229 : Unit := ()
def PySem.W.Fast.tw1782345111570381867 : Unit := ()
def PySem.W.Fast.tw18015514482901556018 : Unit := ()
def PySem.W.Fast.tw13312629168315869999 : Unit := ()
def PySem.W.Fast.tw7134200604312948670 : Unit := ()
def PySem.W.Fast.tw543837825103157337 : Unit := ()
def PySem.W.Fast.tw5336391417892899419 : Unit := ()
def PySem.W.Fast.tw9250144619175165464 : Unit := ()
def PySem.W.Fast.tw818308970931276389 : Unit := ()
def PySem.W.Fast.tw13448286131739542585 : Unit := ()
def PySem.W.Fast.tw1852616109140960361 : Unit := ()
def PySem.W.Fast.tw10241304729540311596 : Unit := ()
def PySem.W.Fast.tw13127000929926226720 : Unit := ()
def PySem.W.Fast.tw7907971816109551122 : Unit := ()
def PySem.W.Fast.tw16940605843459851814 : Unit := ()
def PySem.W.Fast.tw14662104254411414625 : Unit := ()
def PySem.W.Fast.tw15520804136424296119 : Unit := ()
def PySem.W.Fast.tw13207221427133039599 : Unit := ()
def PySem.W.Fast.tw11037984639723946952 : Unit := ()
def PySem.W.Fast.tw11175322001052799381 : Unit := ()
def PySem.W.Fast.tw3110622996719884500 : Unit := ()
def PySem.W.Fast.tw3825736839551710361 : Unit := ()
def PySem.W.Fast.tw16115080923145956132 : Unit := ()
def PySem.W.Fast.tw17176049741189518110 : Unit := ()
def PySem.W.Fast.tw9363619012530986012 : Unit := ()
def PySem.W.Fast.tw14554700101208817591 : Unit := ()
def PySem.W.Fast.tw16345205319145354093 : Unit := ()
def PySem.W.Fast.tw17882369270758251157 : Unit := ()
def PySem.W.Fast.tw3695173595798038629 : Unit := ()
def PySem.W.Fast.tw6352290309325544338 : Unit := ()
def PySem.W.Fast.tw6709504394775954834 : Unit := ()
def PySem.W.Fast.tw14008773807153367998 : Unit := ()
def PySem.W.Fast.tw16012816760976667562 : Unit := ()
def PySem.W.Fast.tw16525260340204372969 : Unit := ()
def PySem.W.Fast.tw17647674390022015604 : Unit := ()
def PySem.W.Fast.tw2398829438132694540 : Unit := ()
def PySem.W.Fast.tw12428634200112024037 : Unit := ()
def PySem.W.Fast.tw2833778704907135073 : Unit := ()
def PySem.W.Fast.tw11828661924232985255 : Unit := ()
def PySem.W.Fast.tw15137895754647552294 : Unit := ()
def PySem.W.Fast.tw9126986478557272777 : Unit := ()
def PySem.W.Fast.tw9640002025813428941 : Unit := ()
def PySem.W.Fast.tw4434907746008714116 : Unit := ()
def PySem.W.Fast.tw8433461027627907883 : Unit := ()
def PySem.W.Fast.tw2332384621693386448 : Unit := ()
def PySem.W.Fast.tw15481788604400708254 : Unit := ()
def PySem.W.Fast.tw1971848912934708247 : Unit := ()
def PySem.W.Fast.tw12555472062241726223 : Unit := ()
def PySem.W.Fast.tw10977024885012434705 : Unit := ()
def PySem.W.Fast.tw11683873720993725339 : Unit := ()
def PySem.W.Fast.tw16514916580047902773 : Unit := ()
def PySem.W.Fast.tw82311943700183257 : Unit := ()
def PySem.W.Fast.tw2189056836948472606 : Unit := ()
def PySem.W.Fast.tw8300179839701484257 : Unit := ()
def PySem.W.Fast.tw7928616293610486405 : Unit := ()
def PySem.W.Fast.tw15195464020761636269 : Unit := ()
def PySem.W.Fast.tw8211128104379040515 : Unit := ()
def PySem.W.Fast.tw6584951373702135635 : Unit := ()
def PySem.W.Fast.tw3303082402226111666 : Unit := ()
def PySem.W.Fast.tw6263322188097191290 : Unit := ()
def PySem.W.Fast.tw8275997700305987486 : Unit := ()
def PySem.W.Fast.tw12535172646715672344 : Unit := ()
def PySem.W.Fast.tw6792820265939024444 : Unit := ()
def PySem.W.Fast.tw3789669366775362649 : Unit := ()
def PySem.W.Fast.tw6435953236875613329 : Unit := ()
def PySem.W.Fast.tw10553417374967926028 : Unit := ()
def PySem.W.Fast.tw1582761619894384220 : Unit := ()
def PySem.W.Fast.tw914030301831648811 : Unit := ()
def PySem.W.Fast.tw11736243433274256356 : Unit := ()
def PySem.W.Fast.tw16214577765797024428 : Unit := ()
def PySem.W.Fast.tw1713311800966964091 : Unit := ()
def PySem.W.Fast.tw1414912354635472420 : Unit := ()
def PySem.W.Fast.tw5542779084422185355 : Unit := ()
def PySem.W.Fast.tw9580608966677574852 : Unit := ()
def PySem.W.Fast.tw14919393406830646848 : Unit := ()
def PySem.W.Fast.tw15184364556129557758 : Unit := ()
def PySem.W.Fast.tw2536143744079122957 : Unit := ()
def PySem.W.Fast.tw5700689375491009610 : Unit := ()
def PySem.W.Fast.tw18346022939026893776 : Unit := ()
def PySem.W.Fast.tw11375133275317891073 : Unit := ()
def PySem.W.Fast.tw12151186806399132049 : Unit := ()
def PySem.W.Fast.tw13511032103306786268 : Unit := ()
def PySem.W.Fast.tw9816757417201145840 : Unit := ()
def PySem.W.Fast.tw18097226980255760793 : Unit := ()
def PySem.W.Fast.tw7787700062078229933 : Unit := ()
def PySem.W.Fast.tw14234681955977275961 : Unit := ()
def PySem.W.Fast.tw14129534454091683358 : Unit := ()
def PySem.W.Fast.tw12384503068609611401 : Unit := ()
def PySem.W.Fast.tw6807921999606307841 : Unit := ()
def PySem.W.Fast.tw13790649866812466976 : Unit := ()
def PySem.W.Fast.tw1806253625902330377 : Unit := ()
def PySem.W.Fast.tw2728508408713947388 : Unit := ()
def PySem.W.Fast.tw3317532265900094130 : Unit := ()
def PySem.W.Fast.tw11767040002521178116 : Unit := ()
def PySem.W.Fast.tw3633509800446665910 : Unit := ()
def PySem.W.Fast.tw14450161424671743293 : Unit := ()
def PySem.W.Fast.tw4308445376173454606 : Unit := ()
def PySem.W.Fast.tw802013974979338691 : Unit := ()
def PySem.W.Fast.tw751916748172736982 : Unit := ()
def PySem.W.Fast.tw3175298700083478480 : Unit := ()
def PySem.W.Fast.tw5972349699405826156 : Unit := ()
def PySem.W.Fast.tw5883620415290857213 : Unit := ()
def PySem.W.Fast.tw2213818540386317970 : Unit := ()
def PySem.W.Fast.tw8725605481804879676 : Unit := ()
def PySem.W.Fast.tw12775697402603233292 : Unit := ()
def PySem.W.Fast.tw7367399128863467623 : Unit := ()
def PySem.W.Fast.tw17873911700091299531 : Unit := ()
def PySem.W.Fast.tw8561675296333835540 : Unit := ()
def PySem.W.Fast.tw11107006769195085943 : Unit := ()
def PySem.W.Fast.tw6146491814253482533 : Unit := ()
def PySem.W.Fast.tw1620566294557955258 : Unit := ()
def PySem.W.Fast.tw10055041593235132953 : Unit := ()
def PySem.W.Fast.tw17575498960244942545 : Unit := ()
def PySem.W.Fast.tw11089754370704400796 : Unit := ()
def PySem.W.Fast.tw1189214396706657043 : Unit := ()
def PySem.W.Fast.tw197193214122464880 : Unit := ()
def PySem.W.Fast.tw15910623847695617609 : Unit := ()
def PySem.W.Fast.tw1575505425445201439 : Unit := ()
def PySem.W.Fast.tw1511411177121501663 : Unit := ()
def PySem.W.Fast.tw1460989867182215168 : Unit := ()
def PySem.W.Fast.tw7742547347718946260 : Unit := ()
def PySem.W.Fast.tw17958875431974657149 : Unit := ()
def PySem.W.Fast.tw15804292082329423128 : Unit := ()
def PySem.W.Fast.tw13307239310209350409 : Unit := ()
def PySem.W.Fast.tw9248106222208231969 : Unit := ()
def PySem.W.Fast.tw14061346911416786918 : Unit := ()
def PySem.W.Fast.tw13802431273589273603 : Unit := ()
def PySem.W.Fast.tw12843314554566778079 : Unit := ()
def PySem.W.Fast.tw15462667507053442514 : Unit := ()
def PySem.W.Fast.tw360324015158516652 : Unit := ()
def PySem.W.Fast.tw2617634746657792160 : Unit := ()
def PySem.W.Fast.tw16276242660096756798 : Unit := ()
def PySem.W.Fast.tw16710628042959168462 : Unit := ()
def PySem.W.Fast.tw2548921056573272165 : Unit := ()
def PySem.W.Fast.tw10439267267797475066 : Unit := ()
def PySem.W.Fast.tw10430655170502916109 : Unit := ()
def PySem.W.Fast.tw5701025189535208694 : Unit := ()
def PySem.W.Fast.tw9180948569786355322 : Unit := ()
def PySem.W.Fast.tw11703035304453611612 : Unit := ()
def PySem.W.Fast.tw8144491289848300968 : Unit := ()
def PySem.W.Fast.tw16271178750249154899 : Unit := ()
def PySem.W.Fast.tw3366358093342282365 : Unit := ()
def PySem.W.Fast.tw3515909478000359098 : Unit := ()
def PySem.W.Fast.tw16294081247534431964 : Unit := ()
def PySem.W.Fast.tw182097504146062842 : Unit := ()
def PySem.W.Fast.tw1242986240456790749 : Unit := ()
def PySem.W.Fast.tw3435175833560996776 : Unit := ()
def PySem.W.Fast.tw15275259107118553446 : Unit := ()
def PySem.W.Fast.tw8904253669085526136 : Unit := ()
def PySem.W.Fast.tw18184564680473760440 : Unit := ()
def PySem.W.Fast.tw17182437742202265140 : Unit := ()
def PySem.W.Fast.tw2395509475175265649 : Unit := ()
def PySem.W.Fast.tw10841064717044397927 : Unit := ()
def PySem.W.Fast.tw7327408755183167050 : Unit := ()
def PySem.W.Fast.tw18003446950740858108 : Unit := ()
def PySem.W.Fast.tw10771583044487288854 : Unit := ()
def PySem.W.Fast.tw15664187329520505082 : Unit := ()
def PySem.W.Fast.tw801652693804775889 : Unit := ()
def PySem.W.Fast.tw4063539781334113041 : Unit := ()
def PySem.W.Fast.tw16036372964142057963 : Unit := ()
def PySem.W.Fast.tw17301416635397984633 : Unit := ()
def PySem.W.Fast.tw9876539917733465582 : Unit := ()
def PySem.W.Fast.tw12961696276715390162 : Unit := ()
def PySem.W.Fast.tw7514109730020982849 : Unit := ()
def PySem.W.Fast.tw2568535847238697318 : Unit := ()
def PySem.W.Fast.tw17800775532071870526 : Unit := ()
def PySem.W.Fast.tw9463191101156046149 : Unit := ()
def PySem.W.Fast.tw17228085316568098795 : Unit := ()
def PySem.W.Fast.tw18379651056505484698 : Unit := ()
def PySem.W.Fast.tw5885207577904017240 : Unit := ()
def PySem.W.Fast.tw14866721719705672415 : Unit := ()
def PySem.W.Fast.tw8024540085085483219 : Unit := ()
def PySem.W.Fast.tw6756575524639744902 : Unit := ()
def PySem.W.Fast.tw11909871852628599536 : Unit := ()
def PySem.W.Fast.tw15704751201963858043 : Unit := ()
def PySem.W.Fast.tw12511818537045757188 : Unit := ()
def PySem.W.Fast.tw7941959419801598 : Unit := ()
def PySem.W.Fast.tw17425701321963770331 : Unit := ()
def PySem.W.Fast.tw10602620699082154224 : Unit := ()
def PySem.W.Fast.tw14378368827606811052 : Unit := ()
def PySem.W.Fast.tw108380870518771145 : Unit := ()
def PySem.W.Fast.tw10396546780498123169 : Unit := ()
def PySem.W.Fast.tw4097193184756186013 : Unit := ()
def PySem.W.Fast.tw1175105006791591717 : Unit := ()
def PySem.W.Fast.tw671985123359055711 : Unit := ()
def PySem.W.Fast.tw2655199521740856392 : Unit := ()
def PySem.W.Fast.tw5234532237378188573 : Unit := ()
def PySem.W.Fast.tw9828565005298713892 : Unit := ()
def PySem.W.Fast.tw18027402240940906607 : Unit := ()
def PySem.W.Fast.tw4854379176772702189 : Unit := ()
def PySem.W.Fast.tw10840112606863048533 : Unit := ()
def PySem.W.Fast.tw2627695838715410220 : Unit := ()
def PySem.W.Fast.tw7727969132443341535 : Unit := ()
def PySem.W.Fast.tw17582098561997639139 : Unit := ()
def PySem.W.Fast.tw4106219556449075577 : Unit := ()
def PySem.W.Fast.tw4039274928442344253 : Unit := ()
def PySem.W.Fast.tw10753844352295518651 : Unit := ()
def PySem.W.Fast.tw15921700156784837403 : Unit := ()
def PySem.W.Fast.tw8539620493086431856 : Unit := ()
def PySem.W.Fast.tw11532521736774662159 : Unit := ()
def PySem.W.Fast.tw16273223264445693537 : Unit := ()
def PySem.W.Fast.tw8423911285157810628 : Unit := ()
def PySem.W.Fast.tw4562996681119666848 : Unit := ()
def PySem.W.Fast.tw11528386046834007993 : Unit := ()
def PySem.W.Fast.tw17791069238000441721 : Unit := ()
def PySem.W.Fast.tw10225351862483515255 : Unit := ()
def PySem.W.Fast.tw17592508477633408134 : Unit := ()
def PySem.W.Fast.tw18426032617835772990 : Unit := ()
def PySem.W.Fast.tw7910502700608149511 : Unit := ()
def PySem.W.Fast.tw14523398480222895700 : Unit := ()
def PySem.W.Fast.tw7667338853193942531 : Unit := ()
def PySem.W.Fast.tw13454199892850553005 : Unit := ()
def PySem.W.Fast.tw2497713582076606104 : Unit := ()
def PySem.W.Fast.tw4847797325281643568 : Unit := ()
def PySem.W.Fast.tw18284506250137646947 : Unit := ()
def PySem.W.Fast.tw4436099215836377714 : Unit := ()
def PySem.W.Fast.tw7373923824437511898 : Unit := ()
def PySem.W.Fast.tw18417370090791228370 : Unit := ()
def PySem.W.Fast.tw3687277006431656564 : Unit := ()
def PySem.W.Fast.tw12839728276401477790 : Unit := ()
def PySem.W.Fast.tw8888363441529120916 : Unit := ()
def PySem.W.Fast.tw15528102158754289250 : Unit := ()
def PySem.W.Fast.tw6138020531695869392 : Unit := ()
def PySem.W.Fast.tw4250526675207035002 : Unit := ()
def PySem.W.Fast.tw7926568616389428556 : Unit := ()
def PySem.W.Fast.tw6507774887013734371 : Unit := ()
def PySem.W.Fast.tw5913210571240741038 : Unit := ()
def PySem.W.Fast.tw6212295674449449079 : Unit := ()
def PySem.W.Fast.tw6657137512513491632 : Unit := ()
def PySem.W.Fast.tw6349296897958925406 : Unit := ()
def PySem.W.Fast.tw12771789137216185309 : Unit := ()
def PySem.W.Fast.tw9339307518021675954 : Unit := ()
def PySem.W.Fast.tw17447526986958852119 : Unit := ()
def PySem.W.Fast.tw15409649970537267915 : Unit := ()
def PySem.W.Fast.tw13203605920791188263 : Unit := ()
def PySem.W.Fast.tw15013419938664767281 : Unit := ()
def PySem.W.Fast.tw13974980291736553553 : Unit := ()
def PySem.W.Fast.tw18284647563306380933 : Unit := ()
def PySem.W.Fast.tw18245246459395950907 : Unit := ()
def PySem.W.Fast.tw16391290487289023527 : Unit := ()
def PySem.W.Fast.tw8405802673846657032 : Unit := ()
def PySem.W.Fast.tw13448543166824211346 : Unit := ()
def PySem.W.Fast.tw15089057741270183721 : Unit := ()
def PySem.W.Fast.tw2540788034774404686 : Unit := ()
def PySem.W.Fast.tw18013389204805720161 : Unit := ()
def PySem.W.Fast.tw17087931792461126123 : Unit := ()
def PySem.W.Fast.tw3508727411153115114 : Unit := ()
def PySem.W.Fast.tw17181697470818327186 : Unit := ()
def PySem.W.Fast.tw5671877518727908856 : Unit := ()
def PySem.W.Fast.tw12645846702939621521 : Unit := ()
def PySem.W.Fast.tw15435632645846722664 : Unit := ()
def PySem.W.Fast.tw2917129047356202546 : Unit := ()
def PySem.W.Fast.tw10148086832880479324 : Unit := ()
def PySem.W.Fast.tw14725676673823775471 : Unit := ()
def PySem.W.Fast.tw12561293171923336294 : Unit := ()
def PySem.W.Fast.tw4574788572725015330 : Unit := ()
def PySem.W.Fast.tw18393285898812335164 : Unit := ()
def PySem.W.Fast.tw14280101034100135966 : Unit := ()
def PySem.W.Fast.tw226178750743725056 : Unit := ()
def PySem.W.Fast.tw3242474525974656198 : Unit := ()
def PySem.W.Fast.tw15513153704143944001 : Unit := ()
def PySem.W.Fast.tw13920223785706570787 : Unit := ()
def PySem.W.Fast.tw2483874180621024918 : Unit := ()
def PySem.W.Fast.tw13730538086389941048 : Unit := ()
def PySem.W.Fast.tw16786919731710163163 : Unit := ()
def PySem.W.Fast.tw5032046404051715437 : Unit := ()
def PySem.W.Fast.tw8412481355137202770 : Unit := ()
def PySem.W.Fast.tw5599909579627547158 : Unit := ()
def PySem.W.Fast.tw6748328858100015855 : Unit := ()
def PySem.W.Fast.tw17404793302111233889 : Unit := ()
def PySem.W.Fast.tw2486504973395053706 : Unit := ()
def PySem.W.Fast.tw5543940106660145945 : Unit := ()
def PySem.W.Fast.tw13273811335685707280 : Unit := ()
def PySem.W.Fast.tw9087740771540600376 : Unit := ()
def PySem.W.Fast.tw5403119172117801177 : Unit := ()
def PySem.W.Fast.tw14709986753578699620 : Unit := ()
def PySem.W.Fast.tw4054639912271811324 : Unit := ()
def PySem.W.Fast.tw8410542206790325242 : Unit := ()
def PySem.W.Fast.tw17656769780829772089 : Unit := ()
def PySem.W.Fast.tw1054715026518391215 : Unit := ()
def PySem.W.Fast.tw16376623304929099588 : Unit := ()
def PySem.W.Fast.tw11464513364529271481 : Unit := ()
def PySem.W.Fast.tw12618230661264380373 : Unit := ()
def PySem.W.Fast.tw6010626158866284149 : Unit := ()
def PySem.W.Fast.tw7393266818987242223 : Unit := ()
def PySem.W.Fast.tw7727462018257039805 : Unit := ()
def PySem.W.Fast.tw5272581633256264837 : Unit := ()
def PySem.W.Fast.tw14969286952546400094 : Unit := ()
def PySem.W.Fast.tw16011675135350850646 : Unit := ()
def PySem.W.Fast.tw18268711779052291216 : Unit := ()
def PySem.W.Fast.tw7748661168679551752 : Unit := ()
def PySem.W.Fast.tw2533434161856157770 : Unit := ()
def PySem.W.Fast.tw4862313477191986522 : Unit := ()
def PySem.W.Fast.tw11605393345666904841 : Unit := ()
def PySem.W.Fast.tw7062099986138268046 : Unit := ()
def PySem.W.Fast.tw10899109488887167399 : Unit := ()
def PySem.W.Fast.tw2759563006868585270 : Unit := ()
def PySem.W.Fast.tw16973625798404523544 : Unit := ()
def PySem.W.Fast.tw6960353109623323673 : Unit := ()
def PySem.W.Fast.tw5526844952366387844 : Unit := ()
def PySem.W.Fast.tw1859199556563498954 : Unit := ()
def PySem.W.Fast.tw382168833470107967 : Unit := ()
def PySem.W.Fast.tw8537357715808074601 : Unit := ()
def PySem.W.Fast.tw14050874936695857749 : Unit := ()
def PySem.W.Fast.tw13109296615054345412 : Unit := ()
def PySem.W.Fast.tw8410153079507712582 : Unit := ()
def PySem.W.Fast.tw7872687096293625431 : Unit := ()
def PySem.W.Fast.tw7902742551472162322 : Unit := ()
def PySem.W.Fast.tw3888718566982754433 : Unit := ()
def PySem.W.Fast.tw1700139942618109852 : Unit := ()
def PySem.W.Fast.tw3365633869809282989 : Unit := ()
def PySem.W.Fast.tw9556199313346066451 : Unit := ()
def PySem.W.Fast.tw1471353618008145606 : Unit := ()
def PySem.W.Fast.tw1477770825469271100 : Unit := ()
def PySem.W.Fast.tw15189772422258871324 : Unit := ()
def PySem.W.Fast.tw9332250658625053184 : Unit := ()
def PySem.W.Fast.tw9604386456637338004 : Unit := ()
def PySem.W.Fast.tw16521038448720156966 : Unit := ()
def PySem.W.Fast.tw1318010484703933546 : Unit := ()
def PySem.W.Fast.tw2079938183102658294 : Unit := ()
def PySem.W.Fast.tw7100657144711403149 : Unit := ()
def PySem.W.Fast.tw8009215956959532967 : Unit := ()
def PySem.W.Fast.tw183225824786046692 : Unit := ()
def PySem.W.Fast.tw9025362021005178433 : Unit := ()
def PySem.W.Fast.tw2720150840863542425 : Unit := ()
def PySem.W.Fast.tw5322055999711726979 : Unit := ()
def PySem.W.Fast.tw11357608890568090860 : Unit := ()
def PySem.W.Fast.tw15057702356735471652 : Unit := ()
def PySem.W.Fast.tw10475775984682802367 : Unit := ()
def PySem.W.Fast.tw14024935279625238678 : Unit := ()
def PySem.W.Fast.tw2476127047629557569 : Unit := ()
def PySem.W.Fast.tw9650456503433428191 : Unit := ()
def PySem.W.Fast.tw6434528826970006787 : Unit := ()
def PySem.W.Fast.tw2071397047094785010 : Unit := ()
def PySem.W.Fast.tw345266300096434442 : Unit := ()
def PySem.W.Fast.tw5470324282197771061 : Unit := ()
def PySem.W.Fast.tw6781860772476656550 : Unit := ()
def PySem.W.Fast.tw17043853849363121996 : Unit := ()
def PySem.W.Fast.tw15514360047421723386 : Unit := ()
def PySem.W.Fast.tw126004060804772240 : Unit := ()
def PySem.W.Fast.tw1190396084819354061 : Unit := ()
def PySem.W.Fast.tw16884536972372139148 : Unit := ()
def PySem.W.Fast.tw10281587833541826055 : Unit := ()
def PySem.W.Fast.tw10205183786018285950 : Unit := ()
def PySem.W.Fast.tw2906961386504641134 : Unit := ()
def PySem.W.Fast.tw10658298759121004633 : Unit := ()
def PySem.W.Fast.tw9050423606509988885 : Unit := ()
def PySem.W.Fast.tw2204844066739246368 : Unit := ()
def PySem.W.Fast.tw18181494712788569721 : Unit := ()
def PySem.W.Fast.tw2273570996382279232 : Unit := ()
def PySem.W.Fast.tw7907861080973117500 : Unit := ()
def PySem.W.Fast.tw6098792977412208163 : Unit := ()
def PySem.W.Fast.tw17722152479570100776 : Unit := ()
def PySem.W.Fast.tw2637098594367811307 : Unit := ()
def PySem.W.Fast.tw18182719361078685865 : Unit := ()
def PySem.W.Fast.tw17694484668195328236 : Unit := ()
def PySem.W.Fast.tw8760229220871080510 : Unit := ()
def PySem.W.Fast.tw12465641772448807289 : Unit := ()
def PySem.W.Fast.tw18135753479471802817 : Unit := ()
def PySem.W.Fast.tw17872371210228291140 : Unit := ()
def PySem.W.Fast.tw5014877245493265614 : Unit := ()
def PySem.W.Fast.tw2440203652986481528 : Unit := ()
def PySem.W.Fast.tw14972415301456101850 : Unit := ()
def PySem.W.Fast.tw632428472375879124 : Unit := ()
def PySem.W.Fast.tw12797960612101714617 : Unit := ()
def PySem.W.Fast.tw6965347482364856386 : Unit := ()
def PySem.W.Fast.tw16856666253040875366 : Unit := ()
def PySem.W.Fast.tw6376773724417290389 : Unit := ()
def PySem.W.Fast.tw11944475969374993054 : Unit := ()
def PySem.W.Fast.tw16794360309233344621 : Unit := ()
def PySem.W.Fast.tw17621150697141636598 : Unit := ()
def PySem.W.Fast.tw11776215379747890866 : Unit := ()
def PySem.W.Fast.tw3548539909186438613 : Unit := ()
def PySem.W.Fast.tw4611194372634014043 : Unit := ()
def PySem.W.Fast.tw4237451979473770860 : Unit := ()
def PySem.W.Fast.tw3258488222986457038 : Unit := ()
def PySem.W.Fast.tw5095399993710941506 : Unit := ()
def PySem.W.Fast.tw15250746212244125389 : Unit := ()
def PySem.W.Fast.tw11612553881460974614 : Unit := ()
def PySem.W.Fast.tw13697904879047519970 : Unit := ()
def PySem.W.Fast.tw10482715361866577517 : Unit := ()
def PySem.W.Fast.tw11302081591684105532 : Unit := ()
def PySem.W.Fast.tw8377959270022255574 : Unit := ()
def PySem.W.Fast.tw11289189661592227073 : Unit := ()
def PySem.W.Fast.tw3754258302303998372 : Unit := ()
def PySem.W.Fast.tw10898489703194215567 : Unit := ()
def PySem.W.Fast.tw14427957304562510824 : Unit := ()
def PySem.W.Fast.tw1571891723335025981 : Unit := ()
def PySem.W.Fast.tw16360078757188564823 : Unit := ()
def PySem.W.Fast.tw10267266783899397092 : Unit := ()
def PySem.W.Fast.tw8078030033638597738 : Unit := ()
def PySem.W.Fast.tw2641172604409312766 : Unit := ()
def PySem.W.Fast.tw12997352614328636429 : Unit := ()
def PySem.W.Fast.tw13060950136416372780 : Unit := ()
def PySem.W.Fast.tw9488129658623836286 : Unit := ()
def PySem.W.Fast.tw9475042417098758456 : Unit := ()
def PySem.W.Fast.tw1943730995399868038 : Unit := ()
def PySem.W.Fast.tw1651989366607971089 : Unit := ()
def PySem.W.Fast.tw3063379985150901827 : Unit := ()
def PySem.W.Fast.tw1104655876541902981 : Unit := ()
def PySem.W.Fast.tw16028148413746433376 : Unit := ()
def PySem.W.Fast.tw17736431518605713688 : Unit := ()
def PySem.W.Fast.tw5302526743086197579 : Unit := ()
def PySem.W.Fast.tw382087738410034538 : Unit := ()
def PySem.W.Fast.tw14082433116324385517 : Unit := ()
def PySem.W.Fast.tw17835456498525354827 : Unit := ()
def PySem.W.Fast.tw9676318481282087585 : Unit := ()
def PySem.W.Fast.tw1572905846091729569 : Unit := ()
def PySem.W.Fast.tw1640567295575121338 : Unit := ()
def PySem.W.Fast.tw14426007118274615317 : Unit := ()
def PySem.W.Fast.tw3083597068074680474 : Unit := ()
def PySem.W.Fast.tw15413238295172698890 : Unit := ()
def PySem.W.Fast.tw9857777458244958511 : Unit := ()
def PySem.W.Fast.tw18045137223510842391 : Unit := ()
def PySem.W.Fast.tw379594476069443064 : Unit := ()
def PySem.W.Fast.tw11261768717977298206 : Unit := ()
def PySem.W.Fast.tw7703696873941909143 : Unit := ()
def PySem.W.Fast.tw10912957883490060455 : Unit := ()
def PySem.W.Fast.tw8552448116704736330 : Unit := ()
def PySem.W.Fast.tw7575377423901656869 : Unit := ()
def PySem.W.Fast.tw13456272273648323351 : Unit := ()
def PySem.W.Fast.tw6607145528320240965 : Unit := ()
def PySem.W.Fast.tw4450369764658510570 : Unit := ()
def PySem.W.Fast.tw5918415592260793381 : Unit := ()
def PySem.W.Fast.tw4224860049117038163 : Unit := ()
def PySem.W.Fast.tw16013775945785789158 : Unit := ()
def PySem.W.Fast.tw5665167660815115124 : Unit := ()
def PySem.W.Fast.tw15579561640239937523 : Unit := ()
def PySem.W.Fast.tw6501682141471858351 : Unit := ()
def PySem.W.Fast.tw505153096722463290 : Unit := ()
def PySem.W.Fast.tw11091617149142725699 : Unit := ()
def PySem.W.Fast.tw16355655768539993193 : Unit := ()
def PySem.W.Fast.tw13948562275165132096 : Unit := ()
def PySem.W.Fast.tw1763368471439334315 : Unit := ()
def PySem.W.Fast.tw4482696984533856316 : Unit := ()
def PySem.W.Fast.tw921723210315846 : Unit := ()
def PySem.W.Fast.tw18344981466244967621 : Unit := ()
def PySem.W.Fast.tw12053762022554824934 : Unit := ()
def PySem.W.Fast.tw10269857025361315345 : Unit := ()
def PySem.W.Fast.tw4434948947886401338 : Unit := ()
def PySem.W.Fast.tw8084199147352775796 : Unit := ()
def PySem.W.Fast.tw1936475229892920455 : Unit := ()
def PySem.W.Fast.tw16556890030772402235 : Unit := ()
def PySem.W.Fast.tw2363640708193986602 : Unit := ()
def PySem.W.Fast.tw14861240556893146185 : Unit := ()
def PySem.W.Fast.tw3685408885416991807 : Unit := ()
def PySem.W.Fast.tw11902380194853433847 : Unit := ()
def PySem.W.Fast.tw9790277258198978819 : Unit := ()
def PySem.W.Fast.tw1222707027111258062 : Unit := ()
def PySem.W.Fast.tw13817064252112409498 : Unit := ()
def PySem.W.Fast.tw17061679028953008949 : Unit := ()
def PySem.W.Fast.tw13894250593613910771 : Unit := ()
def PySem.W.Fast.tw13829734013343991808 : Unit := ()
def PySem.W.Fast.tw9216005466908092991 : Unit := ()
def PySem.W.Fast.tw9915871821621330149 : Unit := ()
def PySem.W.Fast.tw9840073367149820389 : Unit := ()
def PySem.W.Fast.tw3764313353004924887 : Unit := ()
def PySem.W.Fast.tw5502583428074162685 : Unit := ()
def PySem.W.Fast.tw9042311049007121012 : Unit := ()
def PySem.W.Fast.tw14185288961182356820 : Unit := ()
def PySem.W.Fast.tw13881357798255339493 : Unit := ()
def PySem.W.Fast.tw2342992046777286813 : Unit := ()
def PySem.W.Fast.tw7978204605788355863 : Unit := ()
def PySem.W.Fast.tw15231954961419048383 : Unit := ()
def PySem.W.Fast.tw7189721628780385443 : Unit := ()
def PySem.W.Fast.tw1158824952630182236 : Unit := ()
def PySem.W.Fast.tw488286266998323708 : Unit := ()
def PySem.W.Fast.tw15727782426369738274 : Unit := ()
def PySem.W.Fast.tw15796281045513110537 : Unit := ()
def PySem.W.Fast.tw12436059449084121076 : Unit := ()
def PySem.W.Fast.tw5864061181735242074 : Unit := ()
def PySem.W.Fast.tw4628994870133350455 : Unit := ()
def PySem.W.Fast.tw8854149208085106372 : Unit := ()
def PySem.W.Fast.tw17405976755663977983 : Unit := ()
def PySem.W.Fast.tw5615802706839946773 : Unit := ()
def PySem.W.Fast.tw6668698675580800135 : Unit := ()
def PySem.W.Fast.tw8415414431324509844 : Unit := ()
def PySem.W.Fast.tw11760536324445144806 : Unit := ()
def PySem.W.Fast.tw17155315184772014897 : Unit := ()
def PySem.W.Fast.tw7163244489032738189 : Unit := ()
def PySem.W.Fast.tw7494779077477025625 : Unit := ()
def PySem.W.Fast.tw13530873546300720598 : Unit := ()
def PySem.W.Fast.tw16162492750589889043 : Unit := ()
def PySem.W.Fast.tw6595830398666055232 : Unit := ()
def PySem.W.Fast.tw17077220097829842714 : Unit := ()
def PySem.W.Fast.tw14996615998803512267 : Unit := ()
def PySem.W.Fast.tw7581735526614604725 : Unit := ()
def PySem.W.Fast.tw12277212018462872027 : Unit := ()
def PySem.W.Fast.tw4925118249258103622 : Unit := ()
def PySem.W.Fast.tw5110811703892804346 : Unit := ()
def PySem.W.Fast.tw1809473275460669909 : Unit := ()
def PySem.W.Fast.tw8860050856915851029 : Unit := ()
def PySem.W.Fast.tw4138604868490086286 : Unit := ()
def PySem.W.Fast.tw1661650511139026317 : Unit := ()
def PySem.W.Fast.tw2138836877229069326 : Unit := ()
def PySem.W.Fast.tw17381185147999411126 : Unit := ()
def PySem.W.Fast.tw12740415186701300327 : Unit := ()
def PySem.W.Fast.tw9660554895587277582 : Unit := ()
def PySem.W.Fast.tw15182952399223183353 : Unit := ()
def PySem.W.Fast.tw6201816478835713707 : Unit := ()
def PySem.W.Fast.tw927227756465858386 : Unit := ()
def PySem.W.Fast.tw12579163591796447351 : Unit := ()
def PySem.W.Fast.tw679612977339216340 : Unit := ()
def PySem.W.Fast.tw6752803724343005065 : Unit := ()
def PySem.W.Fast.tw3042294542607761049 : Unit := ()
def PySem.W.Fast.tw14097170270152852548 : Unit := ()
def PySem.W.Fast.tw16604065295276816774 : Unit := ()
def PySem.W.Fast.tw17794539601021340127 : Unit := ()
def PySem.W.Fast.tw895915631671714449 : Unit := ()
def PySem.W.Fast.tw18160398396118051515 : Unit := ()
def PySem.W.Fast.tw2695057867373618867 : Unit := ()
def PySem.W.Fast.tw1793841303588461496 : Unit := ()
def PySem.W.Fast.tw15576838335735965862 : Unit := ()
def PySem.W.Fast.tw4467522622890500741 : Unit := ()
def PySem.W.Fast.tw9861130924897217834 : Unit := ()
def PySem.W.Fast.tw12975511258300807212 : Unit := ()
def PySem.W.Fast.tw11763980388143482162 : Unit := ()
def PySem.W.Fast.tw13721871790058941896 : Unit := ()
def PySem.W.Fast.tw17253760282847939093 : Unit := ()
def PySem.W.Fast.tw3259821844129902273 : Unit := ()
def PySem.W.Fast.tw18234390766299695924 : Unit := ()
def PySem.W.Fast.tw17348108960281883121 : Unit := ()
def PySem.W.Fast.tw9431377457955567102 : Unit := ()
def PySem.W.Fast.tw4357385314880636263 : Unit := ()
def PySem.W.Fast.tw12426733013351666575 : Unit := ()
def PySem.W.Fast.tw586240315863422828 : Unit := ()
def PySem.W.Fast.tw18246370343099550311 : Unit := ()
def PySem.W.Fast.tw3114225752204599762 : Unit := ()
def PySem.W.Fast.tw8094842261397184567 : Unit := ()
def PySem.W.Fast.tw4120618929112402361 : Unit := ()
def PySem.W.Fast.tw7611422333796188253 : Unit := ()
def PySem.W.Fast.tw840584706641505734 : Unit := ()
def PySem.W.Fast.tw1239252696080968505 : Unit := ()
def PySem.W.Fast.tw12394392044885287495 : Unit := ()
def PySem.W.Fast.tw16097754135328825479 : Unit := ()
def PySem.W.Fast.tw15442076362204928847 : Unit := ()
def PySem.W.Fast.tw3161464406066456196 : Unit := ()
set_option maxRecDepth 100000 in
set_option maxHeartbeats 0 in
theorem PySem.Challenge.cw_combstrip_k08_deeds_bound_holds : PySem.Challenge.rw_combstrip_k08_deeds_bound.Holds := by
  w_on; o_law; k_head; (case hw => w_witness2)
  k_fill
  refine K08.walk (l := PySem.Challenge.rw_combstrip_k08_deeds_bound) rfl rfl (fun w h Y => PySem.W.kIn_of Y) ?F
  case F =>
    intro w mg fa h KX G hmg
    refine' K08.all KX G hmg (L2.bn_mk KX G ?n0 ?n1 ?n2 ?n3 ?n4 ?n5 ?n6 ?n7 ?n8 ?n9 ?n10 ?n11 ?n12 ?n13 ?n14 ?n15 ?n16 ?n17 ?n18 ?n19 ?n20) ?v0 ?v1 ?v2 ?v3 ?r0 ?r1 ?r2 ?r3 ?r4 ?r5 ?r6 ?r7 ?r8 ?r9 ?r10 ?r11 ?r12 ?r13 ?r14 ?zrce ?zhc ?zini ?zbc ?m0 ?m1 ?m2 ?m3 ?m4 ?m5 ?m6 ?m7 ?m8 ?m9 ?m10 ?d0 ?d1 ?d2 ?d3 ?d4 ?d5 ?d6 ?d7 ?d8 ?d9 ?d10 ?d11 ?d12 ?d13 ?d14 ?d15 ?d16 ?d17 ?d18 ?d19
    (case n0 => k_is)
    (case n1 => k_is)
    (case n2 => k_is)
    (case n3 => k_is)
    (case n4 => k_is)
    (case n5 => k_is)
    (case n6 => k_is)
    (case n7 => k_is)
    (case n8 => k_is)
    (case n9 => k_is)
    (case n10 => k_is)
    (case n11 => k_is)
    (case n12 => k_is)
    (case n13 => k_is)
    (case n14 => k_is)
    (case n15 => k_is)
    (case n16 => k_is)
    (case n17 => k_is)
    (case n18 => k_is)
    (case n19 => k_is)
    (case n20 => k_is)
    (case v0 => refine' L2.int_mk KX G ?a; (case a => k_is))
    (case v1 => refine' L2.int_mk KX G ?a; (case a => k_is))
    (case v2 => refine' L2.int_mk KX G ?a; (case a => k_is))
    (case v3 => refine' L2.int_mk KX G ?a; (case a => k_is))
    (case r0 => refine' L2.ref_mk KX G ?a; (case a => k_is))
    (case r1 => refine' L2.ref_mk KX G ?a; (case a => k_is))
    (case r2 => refine' L2.ref_mk KX G ?a; (case a => k_is))
    (case r3 => refine' L2.ref_mk KX G ?a; (case a => k_is))
    (case r4 => refine' L2.ref_mk KX G ?a; (case a => k_is))
    (case r5 => refine' L2.ref_mk KX G ?a; (case a => k_is))
    (case r6 => refine' L2.ref_mk KX G ?a; (case a => k_is))
    (case r7 => refine' L2.ref_mk KX G ?a; (case a => k_is))
    (case r8 => refine' L2.ref_mk KX G ?a; (case a => k_is))
    (case r9 => refine' L2.ref_mk KX G ?a; (case a => k_is))
    (case r10 => refine' L2.ref_mk KX G ?a; (case a => k_is))
    (case r11 => refine' L2.ref_mk KX G ?a; (case a => k_is))
    (case r12 => refine' L2.ref_mk KX G ?a; (case a => k_is))
    (case r13 => refine' L2.ref_mk KX G ?a; (case a => k_is))
    (case r14 => refine' L2.ref_mk KX G ?a; (case a => k_is))
    (case zrce => refine' L2.ref_mk KX G ?a; (case a => k_is))
    (case zhc => kernel_rfl)
    (case zini => refine' L2.init_mk (L2.ref_mk KX G ?z) ?a ?l ?c ?k ?i ?k2 ?mk; (case z => k_is); (case a => k_is); (case l => k_is); (case c => k_is); (case k => k_is); (case i => k_is); (case k2 => k_is); (case mk => k_is))
    (case zbc => kernel_rfl)
    (case m0 => refine' L2.meth_mk ?a ?l ?c ?k ?i; (case a => k_is); (case l => k_is); (case c => k_is); (case k => k_is); (case i => k_is))
    (case m1 => refine' L2.meth_mk ?a ?l ?c ?k ?i; (case a => k_is); (case l => k_is); (case c => k_is); (case k => k_is); (case i => k_is))
    (case m2 => refine' L2.meth_mk ?a ?l ?c ?k ?i; (case a => k_is); (case l => k_is); (case c => k_is); (case k => k_is); (case i => k_is))
    (case m3 => refine' L2.meth_mk ?a ?l ?c ?k ?i; (case a => k_is); (case l => k_is); (case c => k_is); (case k => k_is); (case i => k_is))
    (case m4 => refine' L2.meth_mk ?a ?l ?c ?k ?i; (case a => k_is); (case l => k_is); (case c => k_is); (case k => k_is); (case i => k_is))
    (case m5 => refine' L2.meth_mk ?a ?l ?c ?k ?i; (case a => k_is); (case l => k_is); (case c => k_is); (case k => k_is); (case i => k_is))
    (case m6 => refine' L2.meth_mk ?a ?l ?c ?k ?i; (case a => k_is); (case l => k_is); (case c => k_is); (case k => k_is); (case i => k_is))
    (case m7 => refine' L2.meth_mk ?a ?l ?c ?k ?i; (case a => k_is); (case l => k_is); (case c => k_is); (case k => k_is); (case i => k_is))
    (case m8 => refine' L2.meth_mk ?a ?l ?c ?k ?i; (case a => k_is); (case l => k_is); (case c => k_is); (case k => k_is); (case i => k_is))
    (case m9 => refine' L2.meth_mk ?a ?l ?c ?k ?i; (case a => k_is); (case l => k_is); (case c => k_is); (case k => k_is); (case i => k_is))
    (case m10 => refine' L2.meth_mk ?a ?l ?c ?k ?i; (case a => k_is); (case l => k_is); (case c => k_is); (case k => k_is); (case i => k_is))
    (case d0 => refine' L2.def_mk KX G ?a ?l ?c ?k; (case a => k_is); (case l => k_is); (case c => k_is); (case k => k_is))
    (case d1 => refine' L2.def_mk KX G ?a ?l ?c ?k; (case a => k_is); (case l => k_is); (case c => k_is); (case k => k_is))
    (case d2 => refine' L2.def_mk KX G ?a ?l ?c ?k; (case a => k_is); (case l => k_is); (case c => k_is); (case k => k_is))
    (case d3 => refine' L2.def_mk KX G ?a ?l ?c ?k; (case a => k_is); (case l => k_is); (case c => k_is); (case k => k_is))
    (case d4 => refine' L2.def_mk KX G ?a ?l ?c ?k; (case a => k_is); (case l => k_is); (case c => k_is); (case k => k_is))
    (case d5 => refine' L2.def_mk KX G ?a ?l ?c ?k; (case a => k_is); (case l => k_is); (case c => k_is); (case k => k_is))
    (case d6 => refine' L2.def_mk KX G ?a ?l ?c ?k; (case a => k_is); (case l => k_is); (case c => k_is); (case k => k_is))
    (case d7 => refine' L2.def_mk KX G ?a ?l ?c ?k; (case a => k_is); (case l => k_is); (case c => k_is); (case k => k_is))
    (case d8 => refine' L2.def_mk KX G ?a ?l ?c ?k; (case a => k_is); (case l => k_is); (case c => k_is); (case k => k_is))
    (case d9 => refine' L2.def_mk KX G ?a ?l ?c ?k; (case a => k_is); (case l => k_is); (case c => k_is); (case k => k_is))
    (case d10 => refine' L2.def_mk KX G ?a ?l ?c ?k; (case a => k_is); (case l => k_is); (case c => k_is); (case k => k_is))
    (case d11 => refine' L2.def_mk KX G ?a ?l ?c ?k; (case a => k_is); (case l => k_is); (case c => k_is); (case k => k_is))
    (case d12 => refine' L2.def_mk KX G ?a ?l ?c ?k; (case a => k_is); (case l => k_is); (case c => k_is); (case k => k_is))
    (case d13 => refine' L2.def_mk KX G ?a ?l ?c ?k; (case a => k_is); (case l => k_is); (case c => k_is); (case k => k_is))
    (case d14 => refine' L2.def_mk KX G ?a ?l ?c ?k; (case a => k_is); (case l => k_is); (case c => k_is); (case k => k_is))
    (case d15 => refine' L2.def_mk KX G ?a ?l ?c ?k; (case a => k_is); (case l => k_is); (case c => k_is); (case k => k_is))
    (case d16 => refine' L2.def_mk KX G ?a ?l ?c ?k; (case a => k_is); (case l => k_is); (case c => k_is); (case k => k_is))
    (case d17 => refine' L2.def_mk KX G ?a ?l ?c ?k; (case a => k_is); (case l => k_is); (case c => k_is); (case k => k_is))
    (case d18 => refine' L2.def_mk KX G ?a ?l ?c ?k; (case a => k_is); (case l => k_is); (case c => k_is); (case k => k_is))
    (case d19 => refine' L2.def_mk KX G ?a ?l ?c ?k; (case a => k_is); (case l => k_is); (case c => k_is); (case k => k_is))

