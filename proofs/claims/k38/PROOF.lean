import PyProof.Rows.All
import Wide.All
import OpenK.AllK
import Wide.FinOn
import Lean
import PyProof.EqAt
import PyProof.EqKinds
import PyProof.TupleCall
import PySem.Challenge.RW_combstrip_k38_whole_all_fillings
set_option Elab.async false
set_option linter.all false
set_option maxRecDepth 100000
set_option maxHeartbeats 40000000
local macro_rules | `(tactic| omega) => `(tactic| first | lia | omega +splitDisjunctions)
namespace L2
open PySem PySem.Spec PyProof.Rows
noncomputable abbrev Key:=Sum Int Str
noncomputable def keyIs:Key->Value->Bool
 | .inl k,v=>Value.isInt k v
 | .inr x,v=>Value.isStrOf x v
noncomputable def keyH (w:World):Key->Int
 | .inl k=>hashInt k
 | .inr x=>hashStr w x
theorem zaJ:∀ {k:Key} {v:Value},keyIs k v=true->(∃ i t,k=Sum.inl i/\v=Value.int i t)\/(∃ x t,k=Sum.inr x/\v=Value.str x t)
 | .inl i,v,h=>by
  obtain ⟨t,e⟩:=Value.isInt_shape (k:=i) (v:=v) h
  exact .inl ⟨i,t,rfl,e⟩
 | .inr x,v,h=>by
  obtain ⟨t,e⟩:=Value.isStrOf_shape (x:=x) (v:=v) h
  exact .inr ⟨x,t,rfl,e⟩
theorem keyIs_int (i:Int) (t:Tok):keyIs (.inl i) (.int i t)=true:=by simp [keyIs,Value.isInt]
theorem keyIs_str (x:Str) (t:Tok):keyIs (.inr x) (.str x t)=true:=by simp [keyIs,Value.isStrOf]
theorem key_ll (a b:Int):decide ((Sum.inl a:Key)=Sum.inl b)=(a == b):=by
 by_cases e:a=b
 ·subst e; simp
 ·have h:¬ (Sum.inl a:Key)=Sum.inl b:=fun q=>e (Sum.inl.inj q)
  rw [decide_eq_false h]
  exact (beq_eq_false_iff_ne.mpr e).symm
theorem key_rr (a b:Str):decide ((Sum.inr a:Key)=Sum.inr b)=decide (a=b):=by
 by_cases e:a=b
 ·subst e; simp
 ·have h:¬ (Sum.inr a:Key)=Sum.inr b:=fun q=>e (Sum.inr.inj q)
  rw [decide_eq_false h,decide_eq_false e]
theorem key_lr (a:Int) (b:Str):decide ((Sum.inl a:Key)=Sum.inr b)=false:=decide_eq_false (fun q=>nomatch q)
theorem key_rl (a:Str) (b:Int):decide ((Sum.inr a:Key)=Sum.inl b)=false:=decide_eq_false (fun q=>nomatch q)
noncomputable def mixKind (prog:Program) (w:World):PySem.KeyKind prog w Key where
 is:=keyIs
 hash:=keyH w
 inj:=fun v a b ha hb=>by
  rcases zaJ ha with ⟨i,t,rfl,rfl⟩ | ⟨x,t,rfl,rfl⟩
  ·rcases zaJ hb with ⟨j,u,rfl,e⟩ | ⟨y,u,rfl,e⟩
   ·injection e with e1 _; rw [e1]
   ·exact nomatch e
  ·rcases zaJ hb with ⟨j,u,rfl,e⟩ | ⟨y,u,rfl,e⟩
   ·exact nomatch e
   ·injection e with e1 _; rw [e1]
 byValue:=fun k v h=>by
  rcases zaJ h with ⟨i,t,rfl,rfl⟩ | ⟨x,t,rfl,rfl⟩ <;> rfl
 pyHash:=fun hv h=>by
  rcases zaJ hv with ⟨i,t,rfl,rfl⟩ | ⟨x,t,rfl,rfl⟩
  ·exact wpAny_pyHash_int h
  ·exact wpAny_pyHash_str h
 eqBool:=fun hu hv h=>by
  rcases zaJ hu with ⟨i,t,rfl,rfl⟩ | ⟨x,t,rfl,rfl⟩
  ·rcases zaJ hv with ⟨j,u,rfl,rfl⟩ | ⟨y,u,rfl,rfl⟩
   ·rw [key_ll] at h; exact wpAny_eqBool_int h
   ·rw [key_lr] at h; exact SeqAt.EqAt.int_str i t y u _ _ _ _ h
  ·rcases zaJ hv with ⟨j,u,rfl,rfl⟩ | ⟨y,u,rfl,rfl⟩
   ·rw [key_rl] at h; exact SeqAt.EqAt.str_int x t j u _ _ _ _ h
   ·rw [key_rr] at h; exact wpAny_eqBool_str h
 «strs» := fun k x t v h=>by
  rcases zaJ h with ⟨i,u,rfl,e⟩ | ⟨y,u,rfl,e⟩
  ·exact nomatch e
  ·injection e with e1 _
   subst e1
   cases v <;> rfl
theorem mixKind_int (prog:Program) (w:World) (i:Int) (t:Tok):(mixKind prog w).is (.inl i) (.int i t)=true:=keyIs_int i t
theorem mixKind_str (prog:Program) (w:World) (x:Str) (t:Tok):(mixKind prog w).is (.inr x) (.str x t)=true:=keyIs_str x t
inductive V where
 | non | bl (b:Bool) | int (i:Int) | str (x:Str) | byt (b:Array UInt8) | flt (b:UInt64) | ref (a:Addr) | ty (n:String)
 deriving DecidableEq
noncomputable def RelV:V->Value->Prop
 | .non,u=>u=Value.none
 | .bl b,u=>u=Value.bool b
 | .int i,u=>∃ t,u=Value.int i t
 | .str x,u=>∃ t,u=Value.str x t
 | .byt b,u=>∃ t,u=Value.bytes b t
 | .flt b,u=>∃ t,u=Value.float b t
 | .ref a,u=>u=Value.ref a
 | .ty n,u=>u=Value.type n
noncomputable abbrev Vals:List V->List Value->Prop:=Paired RelV
theorem Vals.length {xs:List V} {us:List Value} (r:Vals xs us):xs.length=us.length:=Paired.length r
theorem Vals.get:∀ {xs:List V} {us:List Value} {i:Nat} {x:V},Vals xs us->xs[i]?=some x->∃ u,us[i]?=some u/\RelV x u
 | _,_,_,_,.nil,e=>by simp at e
 | _,_,0,_,.cons r _,e=>by simp at e; subst e; exact ⟨_,rfl,r⟩
 | _,_,i + 1,x,.cons _ t,e=>by
  obtain ⟨u,h1,h2⟩:=Vals.get (i:=i) (x:=x) t (by simpa using e)
  exact ⟨u,by simpa using h1,h2⟩
theorem Vals.set {x:V} {u:Value} (r:RelV x u):∀ {xs:List V} {us:List Value} (i:Nat),Vals xs us->Vals (xs.set i x) (us.set i u)
 | _,_,_,.nil => .nil
 | _,_,0,.cons _ t => .cons r t
 | _,_,i + 1,.cons q t => .cons q (Vals.set r i t)
theorem Vals.append:∀ {xs ys:List V} {us ws:List Value},Vals xs us->Vals ys ws->Vals (xs ++ ys) (us ++ ws)
 | _,_,_,_,.nil,s=>s
 | _,_,_,_,.cons r t,s => .cons r (Vals.append t s)
theorem Vals.take:∀ {xs:List V} {us:List Value} (n:Nat),Vals xs us->Vals (xs.take n) (us.take n)
 | _,_,0,_ => .nil
 | _,_,_ + 1,.nil => .nil
 | _,_,n + 1,.cons r t => .cons r (Vals.take n t)
theorem Vals.drop:∀ {xs:List V} {us:List Value} (n:Nat),Vals xs us->Vals (xs.drop n) (us.drop n)
 | _,_,0,r=>r
 | _,_,_ + 1,.nil => .nil
 | _,_,n + 1,.cons _ t=>Vals.drop n t
noncomputable def RelO:Option V->Option Value->Prop
 | some v,some u=>RelV v u
 | none,none=>True
 | _,_=>False
noncomputable def KV {κ : Type}:List (κ × V)->List (κ × Value)->Prop:=Paired fun (p : κ × V) (q : κ × Value)=>p.1=q.1/\RelV p.2 q.2
noncomputable def kV:Key->V
 | .inl i => .int i
 | .inr x => .str x
inductive HO where
  | lst (xs:List V)
  | tup (xs:List V)
  | dK (kvs:List (Key×V)) | dT (kvs:List (List Key×V))
  | set (S:Int->Bool) (n:Nat)
  | ins (C dx:Addr) (fs:List (Str×V))
  | own (x:Addr)
  | xd (fs:List (Str×V))
  | met (f x:Addr)
  | rng (lo hi:Int)
  | frz (o:Obj) (u:HO)
  | tbl (ps:Array Value)
  | ext (φ : Heap->Prop)
noncomputable abbrev Hp:=Addr->Option HO
noncomputable def upd (H:Hp) (a:Addr) (o:HO):Hp:=fun b=>if b=a then some o else H b
theorem upd_same {H:Hp} {a:Addr} {o:HO}:upd H a o a=some o:=by unfold upd; rw [if_pos rfl]
theorem zag {H:Hp} {a b:Addr} {o:HO} (h:b≠a):upd H a o b=H b:=by unfold upd; rw [if_neg h]
theorem zgS {H:Hp} {a b:Addr} {o u:HO} (h:H a=some o) (h':H b=some u) (d:o≠u):a≠b:=by
 intro e; subst e; rw [h] at h'; exact d (Option.some.inj h')
theorem zal {H:Hp} {a b:Addr} {o:HO} (h:H a=some o) (h':H b=none):a≠b:=by
 intro e; subst e; rw [h] at h'; cases h'
section
variable (P:Program) (w:World)
noncomputable def ObjOk (H:Hp) (h:Heap) (a:Addr):HO->Prop
 | .lst xs=>xs.length<=sizeLine/\∃ (its:List Value) (n:Nat),Vals xs its/\h.get? a=some { cls := .type "list",data := .seq its.toArray n }
 | .tup xs=>xs.length<=sizeLine/\∃ its:List Value,Vals xs its/\IsTup h a its.toArray
 | .dK kvs=>kvs.length<=sizeLine/\(a == sysModules)=false/\∃ vs,KV kvs vs/\h.DictOf (mixKind P w) a vs
 | .dT kvs=>kvs.length<=sizeLine/\(a == sysModules)=false/\∃ xs:List (List Key×Addr×Value),
   Paired (fun (p:List Key×V) (q:List Key×Addr×Value)=>p.1=q.1/\H q.2.1=some (.tup (p.1.map kV))/\RelV p.2 q.2.2) kvs xs /\
   ∃ o es ep,h.get? a=some o/\o.ExactDict/\o.data = .dict es ep/\es.toList=xs.map (entryOfKey (tupleKind (mixKind P w)))/\(xs.map (·.1)).Nodup
 | .set S n=>h.SetOf (intKind P w) a S n
 | .ins C dx fs=>H dx=some (.own a)/\fs.length<=1000/\dx≠a/\h.get? a=some (PySem.W.instObj C dx) /\
   ∃ mA,h.Ns1 dx mA/\(∀ f,RelO (fs.lookup f) (mA f))/\PySem.Within mA (fs.map (·.1))
 | .own _=>∃ o,h.get? a=some o
 | .xd fs=>∃ mA,h.Ns1 a mA/\∀ f,RelO (fs.lookup f) (mA f)
 | .rng lo hi=>∃ t u v,h.get? a=some { cls := .type "range",data := .fields #[.int lo t,.int hi u,.int 1 v] }
 | .frz o u=>h.get? a=some o/\ObjOk H h a u
 | .tbl ps=>h.get? a=some { cls := .none,data := .fields ps }
 | .met f x=>h.get? a=some (PySem.W.methodObj (.ref f) (.ref x))
 | .ext φ => φ h/\(∃ o,h.get? a=some o)/\∀ h1 h2:Heap,φ h1->(∀ o,h1.get? a=some o->h2.get? a=some o) -> φ h2
noncomputable def HOk (H:Hp) (h:Heap):Prop:=∀ a o,H a=some o->ObjOk P w H h a o
end
section
variable {P:Program} {w:World} {H H':Hp} {h h':Heap} {a:Addr} {o:HO}
theorem ObjOk.lt (x:ObjOk P w H h a o):a < h.objs.size:=by
 cases o with
 | lst xs=>obtain ⟨_,_,_,_,e⟩:=x; exact Heap.lt_size e
 | tup xs=>obtain ⟨_,_,_,p⟩:=x; exact p.lt
 | dK kvs=>obtain ⟨_,_,_,_,o,_,_,e,_⟩:=x; exact Heap.lt_size e
 | dT kvs=>obtain ⟨_,_,_,_,o,_,_,e,_⟩:=x; exact Heap.lt_size e
 | set S n=>obtain ⟨o,_,_,_,e,_⟩:=x; exact Heap.lt_size e
 | ins C dx fs=>obtain ⟨_,_,_,e,_⟩:=x; exact Heap.lt_size e
 | own y=>obtain ⟨_,e⟩:=x; exact Heap.lt_size e
 | xd fs=>obtain ⟨_,⟨_,_,_,e,_⟩,_⟩:=x; exact Heap.lt_size e
 | rng lo hi=>obtain ⟨_,_,_,e⟩:=x; exact Heap.lt_size e
 | frz ob u=>obtain ⟨e,_⟩:=x; exact Heap.lt_size e
 | tbl ps=>exact Heap.lt_size (show h.get? a=some _ from x)
 | met f y=>exact Heap.lt_size (show h.get? a=some _ from x)
 | ext φ => obtain ⟨_,⟨_,e⟩,_⟩:=x; exact Heap.lt_size e
theorem Paired.mapP {α β : Type} {F G : α -> β -> Prop}:∀ {l₁ : List α} {l₂ : List β},Paired F l₁ l₂ -> (∀ a b,F a b->G a b)->Paired G l₁ l₂
 | _,_,.nil,_ => .nil
 | _,_,.cons r t,f => .cons (f _ _ r) (Paired.mapP t f)
theorem ObjOk.stay (x:ObjOk P w H h a o) (k:∀ b u,(b=a\/H b=some (.own a))->h.get? b=some u->h'.get? b=some u)
  (ho:∀ b,H b=some (.own a)->H' b=some (.own a)) (ht:∀ b xs,H b=some (.tup xs)->H' b=some (.tup xs)):ObjOk P w H' h' a o:=by
 induction o with
 | lst xs=>obtain ⟨z,its,n,r,e⟩:=x; exact ⟨z,its,n,r,k _ _ (.inl rfl) e⟩
 | tup xs=>obtain ⟨z,its,r,ob,e,c⟩:=x; exact ⟨z,its,r,ob,k _ _ (.inl rfl) e,c⟩
 | dK kvs=>obtain ⟨z,y,vs,r,ob,es,ep,e,c⟩:=x; exact ⟨z,y,vs,r,ob,es,ep,k _ _ (.inl rfl) e,c⟩
 | dT kvs =>
  obtain ⟨z,y,xs,r,ob,es,ep,e,c⟩:=x
  exact ⟨z,y,xs,Paired.mapP r fun p q z=>⟨z.1,ht _ _ z.2.1,z.2.2⟩,ob,es,ep,k _ _ (.inl rfl) e,c⟩
 | set S n=>obtain ⟨ob,es,ep,t,e,c⟩:=x; exact ⟨ob,es,ep,t,k _ _ (.inl rfl) e,c⟩
 | ins C dx fs =>
  obtain ⟨d,z,ne,e,mA,⟨od,es,ep,e2,c⟩,r⟩:=x
  exact ⟨ho _ d,z,ne,k _ _ (.inl rfl) e,mA,⟨od,es,ep,k _ _ (.inr d) e2,c⟩,r⟩
 | own y=>obtain ⟨ob,e⟩:=x; exact ⟨ob,k _ _ (.inl rfl) e⟩
 | xd fs=>obtain ⟨mA,⟨od,es,ep,e,c⟩,r⟩:=x; exact ⟨mA,⟨od,es,ep,k _ _ (.inl rfl) e,c⟩,r⟩
 | rng lo hi=>obtain ⟨t,u,v,e⟩:=x; exact ⟨t,u,v,k _ _ (.inl rfl) e⟩
 | frz ob u ih=>obtain ⟨e,q⟩:=x; exact ⟨k _ _ (.inl rfl) e,ih q⟩
 | tbl ps =>
  have e:h.get? a=some { cls := .none,data := .fields ps }:=x
  show h'.get? a=some { cls := .none,data := .fields ps }
  exact k a _ (.inl rfl) e
 | met f y =>
  have e:h.get? a=some (PySem.W.methodObj (.ref f) (.ref y)):=x
  show h'.get? a=some (PySem.W.methodObj (.ref f) (.ref y))
  exact k a _ (.inl rfl) e
 | ext φ => obtain ⟨p,⟨o,e⟩,st⟩:=x; exact ⟨st _ _ p fun o q=>k _ _ (.inl rfl) q,⟨o,k _ _ (.inl rfl) e⟩,st⟩
theorem HOk.lt (x:HOk P w H h) (e:H a=some o):a < h.objs.size:=(x a o e).lt
theorem HOk.fresh (x:HOk P w H h) (e:h.objs.size<=a):H a=none:=by
 cases q:H a with
 | none=>rfl
 | some u=>exact absurd (Nat.lt_of_lt_of_le (x.lt q) e) (Nat.lt_irrefl _)
theorem HOk.kept (x:HOk P w H h) (k:∀ b u,h.get? b=some u->h'.get? b=some u):HOk P w H h':=fun a o e =>
 (x a o e).stay (fun b u _ q=>k b u q) (fun _ q=>q) fun _ _ q=>q
theorem HOk.laid (x:HOk P w H h) (k:∀ b u,h.get? b=some u->h'.get? b=some u) (hp:h.objs.size<=a) (new:ObjOk P w (upd H a o) h' a o):HOk P w (upd H a o) h':=fun b u e=>by
 have hn:=x.fresh hp
 by_cases hb:b=a
 ·subst hb; rw [upd_same] at e; cases e; exact new
 ·rw [zag hb] at e
  exact (x b u e).stay (fun c v _ q=>k c v q) (fun c q=>by rw [zag (zal q hn)]; exact q) fun c xs q=>by rw [zag (zal q hn)]; exact q
end
noncomputable def Rd (H:Hp) (a:Addr) (u:HO):Prop:=H a=some u\/∃ o,H a=some (.frz o u)
theorem Rd.ok {P:Program} {w:World} {H:Hp} {h:Heap} {a:Addr} {u:HO} (r:Rd H a u) (x:HOk P w H h):ObjOk P w H h a u:=by
 rcases r with r | ⟨o,r⟩
 ·exact x a u r
 ·obtain ⟨_,q⟩:=x a _ r
  exact q
noncomputable def Mut:Option HO->Prop
 | some (.lst _)=>True
 | some (.dK _)=>True
 | some (.dT _)=>True
 | some (.set _ _)=>True
 | some (.ins _ _ _)=>True
 | some (.ext _)=>True
 | _=>False
section
variable {P:Program} {w:World} {H:Hp} {h h':Heap} {x e:Addr} {o':HO}
theorem HOk.write (ok:HOk P w H h) (mu:Mut (H x)) (he:e=x\/H e=some (.own x)) (k:∀ b u,b≠e->h.get? b=some u->h'.get? b=some u) (heo:∃ u,h'.get? e=some u)
  (new:ObjOk P w (upd H x o') h' x o'):HOk P w (upd H x o') h':=fun b u q=>by
 have nown:∀ c y,H c=some (.own y)->c≠x:=fun c y r z=>by subst z; rw [r] at mu; exact mu
 have ntup:∀ c xs,H c=some (.tup xs)->c≠x:=fun c xs r z=>by subst z; rw [r] at mu; exact mu
 by_cases hb:b=x
 ·subst hb; rw [upd_same] at q; cases q; exact new
 ·rw [zag hb] at q
  by_cases hbe:b=e
  ·have q':H b=some (.own x):=by
    rcases he with z | z
    ·exact absurd (hbe.trans z) hb
    ·rw [hbe]; exact z
   rw [q] at q'; cases q'
   obtain ⟨v,hv⟩:=heo
   exact ⟨v,by rw [hbe]; exact hv⟩
  ·refine (ok b u q).stay (fun c v hc r=>k c v ?_ r) (fun c r=>by rw [zag (nown c b r)]; exact r) fun c xs r=>by rw [zag (ntup c xs r)]; exact r
   rcases hc with rfl | hc
   ·exact hbe
   ·rintro rfl
    rcases he with z | z
    ·exact nown c b hc z
    ·rw [hc] at z; cases z; exact hb rfl
end
structure Un (fs ex:List Addr) (H H':Hp) (h h':Heap):Prop where
 keep:∀ b o,h.get? b=some o->H b=none->b ∉ fs->b ∉ ex->h'.get? b=some o
 slot:∀ b o,h.get? b=some o->H b=none->b∈fs->b ∉ ex->∃ sl,h'.get? b=some { o with slots:=sl }
 free:∀ b o,h.get? b=some o->H b=none->b ∉ ex->H' b=none
 there:∀ b o,h.get? b=some o->b ∉ ex->∃ o',h'.get? b=some o'
 tups:∀ b xs,H b=some (.tup xs)->H' b=some (.tup xs)
 frzs:∀ b o u,H b=some (.frz o u)->H' b=some (.frz o u)
 tbls:∀ b ps,H b=some (.tbl ps)->∃ more,H' b=some (.tbl (ps ++ more))
section
variable {fs fs' ex ex':List Addr} {H H1 H2:Hp} {h h1 h2 h':Heap} {a x e:Addr} {o:HO}
theorem Un.any (u:Un fs ex H H1 h h1) {b:Addr} {ob:Obj} (q:h.get? b=some ob) (n:H b=none) (hx:b ∉ ex):∃ sl,h1.get? b=some { ob with slots:=sl }:=by
 by_cases hb:b∈fs
 ·exact u.slot b ob q n hb hx
 ·exact ⟨ob.slots,u.keep b ob q n hb hx⟩
theorem Un.trans (a:Un fs ex H H1 h h1) (b:Un fs ex H1 H2 h1 h2):Un fs ex H H2 h h2 where
 keep:=fun c ob q n hc hx=>b.keep c ob (a.keep c ob q n hc hx) (a.free c ob q n hx) hc hx
 slot:=fun c ob q n hc hx=>by
  obtain ⟨sl,e1⟩:=a.slot c ob q n hc hx
  obtain ⟨sl',e2⟩:=b.slot c _ e1 (a.free c ob q n hx) hc hx
  exact ⟨sl',e2⟩
 free:=fun c ob q n hx=>by
  obtain ⟨o',e1⟩:=a.there c ob q hx
  exact b.free c o' e1 (a.free c ob q n hx) hx
 there:=fun c ob q hx=>by
  obtain ⟨o',e1⟩:=a.there c ob q hx
  exact b.there c o' e1 hx
 tups:=fun c xs q=>b.tups c xs (a.tups c xs q)
 frzs:=fun c ob xs q=>b.frzs c ob xs (a.frzs c ob xs q)
 tbls:=fun c ps q=>by
  obtain ⟨m1,e1⟩:=a.tbls c ps q
  obtain ⟨m2,e2⟩:=b.tbls c _ e1
  exact ⟨m1 ++ m2,by rw [e2,Array.append_assoc]⟩
theorem Un.kept (k:∀ b u,h.get? b=some u->h'.get? b=some u):Un fs ex H H h h' :=
 ⟨fun b ob q _ _ _=>k b ob q,fun b ob q _ _ _=>⟨ob.slots,k b ob q⟩,fun _ _ _ n _=>n,fun b ob q _=>⟨ob,k b ob q⟩,fun _ _ q=>q,fun _ _ _ q=>q,fun _ ps q=>⟨#[],by rw [q]; simp⟩⟩
theorem Un.refl:Un fs ex H H h h:=Un.kept fun _ _ q=>q
theorem Un.laid (k:∀ b u,h.get? b=some u->h'.get? b=some u) (hp:h.objs.size<=a) (hn:H a=none):Un fs ex H (upd H a o) h h' where
 keep:=fun b u q _ _ _=>k b u q
 slot:=fun b u q _ _ _=>⟨u.slots,k b u q⟩
 free:=fun b u q n _=>by rw [zag (Nat.ne_of_lt (Nat.lt_of_lt_of_le (Heap.lt_size q) hp))]; exact n
 there:=fun b u q _=>⟨u,k b u q⟩
 tups:=fun b xs q=>by rw [zag (zal q hn)]; exact q
 frzs:=fun b u xs q=>by rw [zag (zal q hn)]; exact q
 tbls:=fun b ps q=>⟨#[],by rw [zag (zal q hn),q]; simp⟩
theorem Un.write (mu:Mut (H x)) (he:e=x\/H e=some (.own x)) (k:∀ b u,b≠e->h.get? b=some u->h'.get? b=some u) (heo:∃ u,h'.get? e=some u):Un fs ex H (upd H x o) h h':=by
 have hx:∀ b,H b=none->b≠x:=fun b n z=>by subst z; rw [n] at mu; exact mu
 have hb:∀ b,H b=none->b≠e:=fun b n z=>by
  subst z
  rcases he with r | r
  ·exact hx b n r
  ·rw [n] at r; cases r
 have hm:∀ b u,H b=some u->¬ Mut (some u)->b≠x:=fun b u q nm z=>by subst z; rw [q] at mu; exact nm mu
 refine ⟨fun b u q n _ _=>k b u (hb b n) q,fun b u q n _ _=>⟨u.slots,k b u (hb b n) q⟩,fun b u q n _=>by rw [zag (hx b n)]; exact n,fun b u q _ => ?_,
  fun b xs q=>by rw [zag (hm b _ q fun z=>z)]; exact q,fun b u xs q=>by rw [zag (hm b _ q fun z=>z)]; exact q,fun b ps q=>⟨#[],by rw [zag (hm b _ q fun z=>z),q]; simp⟩⟩
 by_cases hbe:b=e
 ·subst hbe; exact heo
 ·exact ⟨u,k b u hbe q⟩
end
noncomputable def trk (h:Heap) (H:Hp):List Addr:=(List.range h.objs.size).filter fun a=>(H a).isSome
noncomputable def hidT (h:Heap) (H:Hp):Heap:=PySem.W.hideAll h (trk h H)
theorem hidT_size (h:Heap) (H:Hp):(hidT h H).objs.size=h.objs.size:=PySem.W.hideAll_size _ _
theorem hidT_get {h:Heap} {H:Hp} {b:Addr} {o:Obj} (e:h.get? b=some o) (n:H b=none):(hidT h H).get? b=some o :=
 PySem.W.hideAll_get _ e fun hm=>by
  have q:(H b).isSome=true:=(List.mem_filter.mp hm).2
  rw [n] at q; simp at q
theorem of_hidT {h:Heap} {H:Hp} {b:Addr} {o:Obj} (e:(hidT h H).get? b=some o):h.get? b=some o/\H b=none:=by
 have e':h.get? b=some o:=PySem.W.of_hideAll (trk h H) e
 refine ⟨e',?_⟩
 cases q:H b with
 | none=>rfl
 | some x =>
  have hm:b∈trk h H:=List.mem_filter.mpr ⟨List.mem_range.mpr (Heap.lt_size e'),by simp [q]⟩
  have z:(hidT h H).get? b=none:=PySem.W.hideAll_none (trk h H) hm
  rw [z] at e; cases e
noncomputable def allNews (g h:Heap) (L:Addr):List (Addr×Obj):=(List.range h.objs.size).filterMap fun a=>if a=L\/(g.get? a).isSome=true then none else (h.get? a).map fun o=>(a,o)
noncomputable def rest (g h:Heap) (L d:Addr):List (Addr×Obj):=(allNews g h L).filter fun p=>decide (p.1≠d)
structure Mod (K:W.Frag) (mg:Str->Option Value) (base:Heap):Prop where
 kin:K.In base
 glob:base.Ns mainGlobals mg
 blt:∃ mb,base.Ns builtinsNs mb/\∀ x:Str,x ≠ "__name__" -> mb x=bootBuiltins x
 nolimit:base.NoLimit
structure Cx where
 prog:Program
 w:World
 K:W.Frag
 mg:Str->Option Value
 base:Heap
 A:Around
 N:List Str
 s₀ : Shared
 H₀ : Hp
 env:Env
 outer:List Env
 stack:List Env
 ex:List Addr
 fn:Str->Bool
 calm:Bool
 pn:List (Addr×Obj)
 xe:Value->Shared->Prop
noncomputable def frs (l:List Env):List Addr:=l.filterMap (·.frame)
noncomputable abbrev Cx.fs (X:Cx):List Addr:=frs X.outer
noncomputable def Vis (sc:Scope) (x:Str):Prop:=sc.names.lookup x=some .local\/sc.names.lookup x=some .cell\/sc.names.lookup x=some .free
noncomputable def Loc (sc:Scope) (x:Str):Prop:=sc.names.lookup x=some .local\/sc.names.lookup x=some .cell
noncomputable def Look (env:Env) (h:Heap) (m:Str->Option Value) (x:Str) (u:Value):Prop :=
 (env.kindOf x=some .local/\m x=some u)\/((env.kindOf x=some .cell\/env.kindOf x=some .free)/\∃ c,env.cells.lookup x=some c/\h.IsCell c (some u))
structure Cx.Ok (X:Cx):Prop where
 mod:Mod X.K X.mg X.base
 kind:X.env.scope.kind = .function
 glob:X.env.globals=mainGlobals
 blt:X.env.builtins=builtinsNs
 above:X.s₀.heap.objs.size<=X.env.locals
 inj:∀ x y c,X.env.cells.lookup x=some c->X.env.cells.lookup y=some c->x=y
 has:∀ x,(X.env.kindOf x=some .cell\/X.env.kindOf x=some .free)->∃ c,X.env.cells.lookup x=some c
 cab:∀ x c,X.fn x=true->X.env.cells.lookup x=some c->X.s₀.heap.objs.size<=c
 hd:X.calm=true->X.A.handled=none
 frames:X.A.frames=some X.stack
 stk:X.stack=X.outer\/(X.stack=X.env :: X.outer/\X.env.frame=some X.env.locals)
 exf:∀ b∈X.ex,b≠X.env.locals/\∀ x c,X.env.cells.lookup x=some c->c≠b
 bs:∀ b o,X.base.get? b=some o->X.s₀.heap.get? b=some o/\X.H₀ b=none
 bsz:X.base.objs.size<=X.s₀.heap.objs.size
 noex:∀ b o,X.base.get? b=some o->b ∉ X.ex
 exfs:∀ b∈X.ex,b ∉ X.fs
 funs:X.s₀.heap.FunFrames X.base X.outer
 frf:∀ b∈X.fs,X.H₀ b=none
structure Inv (X:Cx) (pins:List (Addr×Obj)) (σ : List (Option V)) (H:Hp) (s:Shared):Prop where
 ok:X.Ok
 os:s.os=X.s₀.os
 bare:AllBare s.gens
 base:Un X.fs X.ex X.H₀ H X.s₀.heap s.heap
 loc:∃ m,s.heap.Ns X.env.locals m/\∀ (i:Nat) (x:Str) (v:V),X.N[i]?=some x -> σ[i]?=some (some v)->Vis X.env.scope x->∃ u,RelV v u/\Look X.env s.heap m x u
 cell:∀ x c,X.env.cells.lookup x=some c->∃ v,s.heap.IsCell c v
 free:H X.env.locals=none
 freeC:∀ x c,X.env.cells.lookup x=some c->H c=none
 pin:∀ p∈X.pn ++ pins,s.heap.get? p.1=some p.2/\H p.1=none/\p.1≠X.env.locals/\p.1 ∉ X.fs/\∀ v,p.2.data ≠ .cell v
 hok:HOk X.prog X.w H s.heap
 len : σ.length=X.N.length
section
variable {X:Cx} {pins:List (Addr×Obj)} {σ : List (Option V)} {H H':Hp} {s:Shared} {h':Heap}
theorem Cx.Ok.nofr (ok:X.Ok) {b:Addr} {o:Obj} (e:X.base.get? b=some o):b ∉ X.fs:=fun hb=>by
 have:=(ok.funs.mem hb).1
 rw [e] at this; cases this
theorem Inv.bs (I:Inv X pins σ H s):∀ b o,X.base.get? b=some o->s.heap.get? b=some o/\H b=none:=fun b o e =>
 ⟨I.base.keep b o (I.ok.bs b o e).1 (I.ok.bs b o e).2 (I.ok.nofr e) (I.ok.noex b o e),I.base.free b o (I.ok.bs b o e).1 (I.ok.bs b o e).2 (I.ok.noex b o e)⟩
theorem Inv.bk (I:Inv X pins σ H s):∀ b o,X.base.get? b=some o->s.heap.get? b=some o:=fun b o e=>(I.bs b o e).1
theorem Inv.mod (I:Inv X pins σ H s):Mod X.K X.mg X.base:=I.ok.mod
theorem Inv.kIn (I:Inv X pins σ H s):X.K.In s.heap:=I.ok.mod.kin.keeps I.bk
theorem Inv.lt (I:Inv X pins σ H s):X.env.locals < s.heap.objs.size:=let ⟨_,hn,_⟩:=I.loc; hn.lt
theorem Inv.sz (I:Inv X pins σ H s):X.s₀.heap.objs.size<=s.heap.objs.size:=Nat.le_trans I.ok.above (Nat.le_of_lt I.lt)
theorem Inv.nofs (I:Inv X pins σ H s) {a:Addr} (h:s.heap.objs.size<=a):a ∉ X.fs:=fun hb=>by
 obtain ⟨_,o,ho,_⟩:=I.ok.funs.mem hb
 exact absurd (Nat.lt_of_lt_of_le (Heap.lt_size ho) (Nat.le_trans I.sz h)) (Nat.lt_irrefl _)
theorem Inv.cne (I:Inv X pins σ H s):∀ x c,X.env.cells.lookup x=some c->c≠X.env.locals:=fun x c e z=>by
 obtain ⟨v,o,ho,hd⟩:=I.cell x c e
 obtain ⟨m,⟨o',es,ep,ho',hd',_⟩,_⟩:=I.loc
 rw [z,ho'] at ho; cases ho; rw [hd'] at hd; cases hd
theorem Inv.funs (I:Inv X pins σ H s):s.heap.FunFrames X.base X.outer:=by
 have all:∀ (l:List Env),(∀ b∈frs l,b∈X.fs)->X.s₀.heap.FunFrames X.base l->s.heap.FunFrames X.base l:=by
  intro l
  induction l with
  | nil=>intro _ _; trivial
  | cons env r ih =>
   intro hs hl
   obtain ⟨hk,⟨L,o,hf,hn,ho,hd⟩,hr⟩:=hl
   have hL:L∈X.fs:=hs L (by unfold frs; rw [List.filterMap_cons,hf]; exact List.mem_cons_self)
   obtain ⟨sl,e⟩:=I.base.slot L o ho (I.ok.frf L hL) hL fun z=>I.ok.exfs L z hL
   exact ⟨hk,⟨L,_,hf,hn,e,hd⟩,ih (fun b hb=>hs b (by unfold frs; rw [List.filterMap_cons,hf]; exact List.mem_cons_of_mem _ hb)) hr⟩
 exact all X.outer (fun _ hb=>hb) I.ok.funs
theorem Inv.stack (I:Inv X pins σ H s):s.heap.FunFrames X.base X.stack:=by
 rcases I.ok.stk with e | ⟨e,hf⟩
 ·rw [e]; exact I.funs
 ·rw [e]
  obtain ⟨m,hn,_⟩:=I.loc
  refine .cons (by rw [I.ok.kind]; decide) hf hn ?_ I.funs
  exact Heap.get?_none_of_le (Nat.le_trans I.ok.bsz I.ok.above)
theorem Inv.stkSub (I:Inv X pins σ H s):∀ b∈frs X.stack,b∈X.env.locals :: X.fs:=fun b hb=>by
 rcases I.ok.stk with e | ⟨e,hf⟩
 ·rw [e] at hb; exact List.mem_cons_of_mem _ hb
 ·rw [e] at hb
  unfold frs at hb
  rw [List.filterMap_cons,hf] at hb
  exact hb
theorem Inv.stkFree (I:Inv X pins σ H s):∀ b∈frs X.stack,H b=none:=fun b hb=>by
 rcases List.mem_cons.mp (I.stkSub b hb) with e | hb
 ·rw [e]; exact I.free
 ·obtain ⟨_,o,ho,_⟩:=I.ok.funs.mem hb
  exact I.base.free b o ho (I.ok.frf b hb) fun z=>I.ok.exfs b z hb
theorem Inv.step {g':Array GenState} {t':Nat} {d':Drawn} {ch:List Addr} (I:Inv X pins σ H s)
  (hch:∀ b∈ch,(b∈X.ex\/X.s₀.heap.objs.size<=b)/\b≠X.env.locals/\(∀ x c,X.env.cells.lookup x=some c->c≠b)/\∀ p∈X.pn ++ pins,p.1≠b)
  (keep:∀ b o,b≠X.env.locals->b ∉ X.fs->b ∉ ch->s.heap.get? b=some o->H b=none->h'.get? b=some o)
  (slot:∀ b o,b≠X.env.locals->b∈X.fs->b ∉ ch->s.heap.get? b=some o->H b=none->∃ sl,h'.get? b=some { o with slots:=sl }) (free:∀ b o,b ∉ ch->s.heap.get? b=some o->H b=none->H' b=none)
  (there:∀ b o,b ∉ ch->s.heap.get? b=some o->∃ o',h'.get? b=some o')
  (tups:∀ b xs,H b=some (.tup xs)->H' b=some (.tup xs)) (frzs:∀ b o u,H b=some (.frz o u)->H' b=some (.frz o u)) (tbls:∀ b ps,H b=some (.tbl ps)->∃ more,H' b=some (.tbl (ps ++ more)))
  (ns:∀ m,s.heap.Ns X.env.locals m->h'.Ns X.env.locals m) (hok:HOk X.prog X.w H' h') (hg:AllBare g') :
  Inv X pins σ H' { s with heap:=h',gens:=g',drawn:=d',toks:=t' }:=by
 have neL:∀ b o,X.s₀.heap.get? b=some o->b≠X.env.locals:=fun b o e=>Nat.ne_of_lt (Nat.lt_of_lt_of_le (Heap.lt_size e) I.ok.above)
 have neC:∀ b o,X.s₀.heap.get? b=some o->b ∉ X.ex->b ∉ ch:=fun b o e hx hb=>by
  rcases (hch b hb).1 with z | z
  ·exact hx z
  ·exact absurd (Nat.lt_of_lt_of_le (Heap.lt_size e) z) (Nat.lt_irrefl _)
 have cellK:∀ x c,X.env.cells.lookup x=some c->∀ v,s.heap.IsCell c v->h'.IsCell c v:=fun x c e v ⟨o,ho,hd⟩=>by
  have nch:c ∉ ch:=fun z=>(hch c z).2.2.1 x c e rfl
  by_cases hc:c∈X.fs
  ·obtain ⟨sl,q⟩:=slot c o (I.cne x c e) hc nch ho (I.freeC x c e)
   exact ⟨_,q,hd⟩
  ·exact ⟨o,keep c o (I.cne x c e) hc nch ho (I.freeC x c e),hd⟩
 refine ⟨I.ok,I.os,hg,⟨fun b o e n hb hx => ?_,fun b o e n hb hx => ?_,fun b o e n hx => ?_,fun b o e hx => ?_,fun b xs e=>tups b xs (I.base.tups b xs e),fun b o xs e=>frzs b o xs (I.base.frzs b o xs e),fun b ps e => ?_⟩,?_,fun x c e => ?_,?_,fun x c e => ?_,fun p hp => ?_,hok,I.len⟩
 ·exact keep b o (neL b o e) hb (neC b o e hx) (I.base.keep b o e n hb hx) (I.base.free b o e n hx)
 ·obtain ⟨sl,e1⟩:=I.base.slot b o e n hb hx
  obtain ⟨sl',e2⟩:=slot b _ (neL b o e) hb (neC b o e hx) e1 (I.base.free b o e n hx)
  exact ⟨sl',e2⟩
 ·obtain ⟨o',e1⟩:=I.base.there b o e hx
  exact free b o' (neC b o e hx) e1 (I.base.free b o e n hx)
 ·obtain ⟨o',e1⟩:=I.base.there b o e hx
  exact there b o' (neC b o e hx) e1
 ·obtain ⟨m1,e1⟩:=I.base.tbls b ps e
  obtain ⟨m2,e2⟩:=tbls b _ e1
  exact ⟨m1 ++ m2,by rw [e2,Array.append_assoc]⟩
 ·obtain ⟨m,hn,hl⟩:=I.loc
  refine ⟨m,ns m hn,fun i x v e1 e2 e3 => ?_⟩
  obtain ⟨u,r,l⟩:=hl i x v e1 e2 e3
  refine ⟨u,r,?_⟩
  rcases l with l | ⟨k,c,e,z⟩
  ·exact .inl l
  ·exact .inr ⟨k,c,e,cellK x c e _ z⟩
 ·obtain ⟨v,z⟩:=I.cell x c e
  exact ⟨v,cellK x c e v z⟩
 ·obtain ⟨m,⟨o,_,_,ho,_⟩,_⟩:=I.loc
  exact free _ o (fun z=>(hch _ z).2.1 rfl) ho I.free
 ·obtain ⟨v,o,ho,hd⟩:=I.cell x c e
  exact free c o (fun z=>(hch c z).2.2.1 x c e rfl) ho (I.freeC x c e)
 ·obtain ⟨e,n,ne,nf,d⟩:=I.pin p hp
  have nch:p.1 ∉ ch:=fun z=>(hch p.1 z).2.2.2 p hp rfl
  exact ⟨keep p.1 p.2 ne nf nch e n,free p.1 p.2 nch e n,ne,nf,d⟩
theorem Inv.un {t':Nat} (I:Inv X pins σ H s) (u:Un X.fs [] H H' s.heap h') (hok:HOk X.prog X.w H' h'):Inv X pins σ H' { s with heap:=h',toks:=t' }:=by
 obtain ⟨m,⟨o,es,ep,ho,r⟩,_⟩:=id I.loc
 obtain ⟨sl,hL⟩:=u.any ho I.free (by simp)
 exact I.step (g':=s.gens) (d':=s.drawn) (ch := []) (fun _ z=>nomatch z) (fun b o _ hb _ e n=>u.keep b o e n hb (by simp)) (fun b o _ hb _ e n=>u.slot b o e n hb (by simp)) (fun b o _ e n=>u.free b o e n (by simp)) (fun b o _ e=>u.there b o e (by simp)) u.tups u.frzs u.tbls (fun m' hm=>by
  obtain ⟨o',es',ep',ho',r'⟩:=hm
  rw [ho] at ho'; cases ho'
  exact ⟨_,es',ep',hL,r'⟩) hok I.bare
theorem Inv.call {g':Array GenState} {t':Nat} {d':Drawn} {ch:List Addr} (I:Inv X pins σ H s) (u:Un (frs X.stack) ch H H' s.heap h') (hok:HOk X.prog X.w H' h') (hg:AllBare g')
  (hch:∀ b∈ch,(b∈X.ex\/X.s₀.heap.objs.size<=b)/\b≠X.env.locals/\(∀ x c,X.env.cells.lookup x=some c->c≠b)/\∀ p∈X.pn ++ pins,p.1≠b) :
  Inv X pins σ H' { s with heap:=h',gens:=g',drawn:=d',toks:=t' }:=by
 obtain ⟨m,⟨o,es,ep,ho,r⟩,_⟩:=id I.loc
 obtain ⟨sl,hL⟩:=u.any ho I.free fun z=>(hch _ z).2.1 rfl
 exact I.step (ch:=ch) hch (fun b o hL hb hc e n=>u.keep b o e n (fun z=>(List.mem_cons.mp (I.stkSub b z)).elim hL hb) hc) (fun b o _ _ hc e n=>u.any e n hc) (fun b o hc e n=>u.free b o e n hc) (fun b o hc e=>u.there b o e hc) u.tups u.frzs u.tbls (fun m' hm=>by
  obtain ⟨o',es',ep',ho',r'⟩:=hm
  rw [ho] at ho'; cases ho'
  exact ⟨_,es',ep',hL,r'⟩) hok hg
theorem Inv.turned {t':Nat} {it:Addr} (I:Inv X pins σ H s) (k:∀ b o,b≠it->s.heap.get? b=some o->h'.get? b=some o) (hn:H it=none) (hL:it≠X.env.locals)
  (h1:it∈X.ex\/X.s₀.heap.objs.size<=it) (h2:∀ x c,X.env.cells.lookup x=some c->c≠it) (h3:∀ p∈X.pn ++ pins,p.1≠it):Inv X pins σ H { s with heap:=h',toks:=t' }:=by
 have nit:∀ b u,H b=some u->b≠it:=fun b u e z=>by rw [z,hn] at e; cases e
 refine I.step (g':=s.gens) (d':=s.drawn) (ch := [it]) (fun b hb => ?_) (fun b o _ _ hc e _=>k b o (fun z=>hc (by simp [z])) e) (fun b o _ _ hc e _=>⟨o.slots,k b o (fun z=>hc (by simp [z])) e⟩) (fun _ _ _ _ n=>n)
  (fun b o hc e=>⟨o,k b o (fun z=>hc (by simp [z])) e⟩) (fun _ _ e=>e) (fun _ _ _ e=>e) (fun b ps e=>⟨#[],by rw [e]; simp⟩) (fun m hm => ?_) (fun b u e => ?_) I.bare
 ·have e:b=it:=by simpa using hb
  subst e
  exact ⟨h1,hL,h2,h3⟩
 ·obtain ⟨o,es,ep,ho,r⟩:=hm
  exact ⟨o,es,ep,k _ o (Ne.symm hL) ho,r⟩
 ·refine (I.hok b u e).stay (fun c v hc q=>k c v ?_ q) (fun _ q=>q) fun _ _ q=>q
  rcases hc with z | z
  ·rw [z]; exact nit b u e
  ·exact nit c _ z
theorem Inv.tok (I:Inv X pins σ H s) (t:Nat):Inv X pins σ H { s with toks:=t }:=I.un (h':=s.heap) (t':=t) Un.refl I.hok
theorem Inv.kept {t':Nat} (I:Inv X pins σ H s) (k:∀ b u,s.heap.get? b=some u->h'.get? b=some u):Inv X pins σ H { s with heap:=h',toks:=t' }:=I.un (Un.kept k) (I.hok.kept k)
theorem Inv.laid {a:Addr} {o:HO} {t':Nat} (I:Inv X pins σ H s) (k:∀ b u,s.heap.get? b=some u->h'.get? b=some u) (hp:s.heap.objs.size<=a) (new:ObjOk X.prog X.w (upd H a o) h' a o) :
  Inv X pins σ (upd H a o) { s with heap:=h',toks:=t' }:=I.un (Un.laid k hp (I.hok.fresh hp)) (I.hok.laid k hp new)
theorem Inv.write {x e:Addr} {o:HO} {t':Nat} (I:Inv X pins σ H s) (mu:Mut (H x)) (he:e=x\/H e=some (.own x)) (k:∀ b u,b≠e->s.heap.get? b=some u->h'.get? b=some u) (heo:∃ u,h'.get? e=some u)
  (new:ObjOk X.prog X.w (upd H x o) h' x o):Inv X pins σ (upd H x o) { s with heap:=h',toks:=t' }:=I.un (Un.write mu he k heo) (I.hok.write mu he k heo new)
theorem Inv.weak {σ':List (Option V)} (I:Inv X pins σ H s) (hl : σ'.length = σ.length) (w:∀ (i:Nat) v,σ'[i]?=some (some v) -> σ[i]?=some (some v)):Inv X pins σ' H s :=
 ⟨I.ok,I.os,I.bare,I.base,let ⟨m,hn,hl'⟩:=I.loc; ⟨m,hn,fun i x v e1 e2 e3=>hl' i x v e1 (w i v e2) e3⟩,I.cell,I.free,I.freeC,I.pin,I.hok,hl.trans I.len⟩
theorem Inv.pins_of {pins':List (Addr×Obj)} (I:Inv X pins σ H s) (h:∀ p∈pins',s.heap.get? p.1=some p.2/\H p.1=none/\p.1≠X.env.locals/\p.1 ∉ X.fs/\∀ v,p.2.data ≠ .cell v):Inv X pins' σ H s :=
 ⟨I.ok,I.os,I.bare,I.base,I.loc,I.cell,I.free,I.freeC,fun p hp=>(List.mem_append.mp hp).elim (fun z=>I.pin p (List.mem_append_left _ z)) (h p),I.hok,I.len⟩
theorem zfm {N:List Str} (hN:N.Nodup) {i j:Nat} {x:Str} (a:N[i]?=some x) (b:N[j]?=some x):i=j:=by
 obtain ⟨h1,e1⟩:=List.getElem?_eq_some_iff.mp a
 obtain ⟨h2,e2⟩:=List.getElem?_eq_some_iff.mp b
 exact (List.getElem_inj hN).mp (e1.trans e2.symm)
theorem zdW {M:Model} {A:Around} {E:Value->Shared->Prop} {i:Nat} {x:Str} {v:V} {u:Value} {Q:Unit->Shared->Prop} (I:Inv X pins σ H s) (hN:X.N.Nodup) (hi:X.N[i]?=some x) (hx:Loc X.env.scope x) (r:RelV v u)
  (h:∀ s',Inv X pins (σ.set i (some v)) H s'->(∃ a,Heap.SameBut a s.heap s'.heap/\(a=X.env.locals\/X.env.cells.lookup x=some a))->Q () s') (hf:X.fn x=true\/X.env.scope.names.lookup x=some .local:=by first | exact .inl rfl | exact .inr rfl | assumption):wpAny M A (storeName X.env x u) Q E s:=by
 obtain ⟨m,hn,hl⟩:=id I.loc
 have hcls:(X.env.scope.kind == .class || (X.env.scope.kind == .module && X.env.locals != X.env.globals))=false:=by rw [I.ok.kind]; rfl
 have hiσ : i < σ.length:=by rw [I.len]; exact (List.getElem?_eq_some_iff.mp hi).1
 have cne:=I.cne
 have tracked:∀ {a:Addr} {h':Heap},(∃ o,s.heap.get? a=some o/\H a=none)->Heap.SameBut a s.heap h'->HOk X.prog X.w H h':=fun {a h'} ha hs b ob e=>by
  obtain ⟨_,_,hfree⟩:=ha
  refine (I.hok b ob e).stay (fun c w' hc q=>(hs.2 c ?_).trans q) (fun _ q=>q) fun _ _ q=>q
  rintro rfl
  rcases hc with rfl | hc
  ·rw [hfree] at e; cases e
  ·rw [hfree] at hc; cases hc
 rcases hx with hk | hk
 ·refine wpAny_storeName_local hk hn (fun h' hn' hs => ?_) hcls
  obtain ⟨oL,_,_,hoL,_⟩:=id hn
  refine h _ ⟨I.ok,I.os,I.bare,⟨fun b o e n hb hx => ?_,fun b o e n hb hx => ?_,I.base.free,fun b o e hx => ?_,I.base.tups,I.base.frzs,I.base.tbls⟩,⟨_,hn',fun j y v' e1 e2 e3 => ?_⟩,fun y c e => ?_,I.free,I.freeC,fun p hp => ?_,tracked ⟨oL,hoL,I.free⟩ hs,by simpa using I.len⟩ ⟨_,hs,.inl rfl⟩
  ·exact (hs.2 b (Nat.ne_of_lt (Nat.lt_of_lt_of_le (Heap.lt_size e) I.ok.above))).trans (I.base.keep b o e n hb hx)
  ·obtain ⟨sl,e1⟩:=I.base.slot b o e n hb hx
   exact ⟨sl,(hs.2 b (Nat.ne_of_lt (Nat.lt_of_lt_of_le (Heap.lt_size e) I.ok.above))).trans e1⟩
  ·obtain ⟨o',e1⟩:=I.base.there b o e hx
   exact ⟨o',(hs.2 b (Nat.ne_of_lt (Nat.lt_of_lt_of_le (Heap.lt_size e) I.ok.above))).trans e1⟩
  ·by_cases hj:j=i
   ·subst hj
    rw [hi] at e1; cases e1
    rw [List.getElem?_set_self hiσ] at e2
    cases e2
    exact ⟨u,r,.inl ⟨hk,by simp⟩⟩
   ·rw [List.getElem?_set_ne (Ne.symm hj)] at e2
    obtain ⟨u',r',q⟩:=hl j y v' e1 e2 e3
    refine ⟨u',r',?_⟩
    rcases q with ⟨k,e⟩ | ⟨k,c,e,z⟩
    ·refine .inl ⟨k,?_⟩
     have:y≠x:=fun e=>hj (zfm hN e1 (e ▸ hi))
     simp [this,e]
    ·exact .inr ⟨k,c,e,z.sameBut hs (cne y c e)⟩
  ·obtain ⟨w',z⟩:=I.cell y c e
   exact ⟨w',z.sameBut hs (cne y c e)⟩
  ·obtain ⟨e,n,ne,nf,d⟩:=I.pin p hp
   exact ⟨(hs.2 p.1 ne).trans e,n,ne,nf,d⟩
 ·have hfn:X.fn x=true:=by
   rcases hf with z | z
   ·exact z
   ·rw [z] at hk; cases hk
  obtain ⟨c,hc⟩:=I.ok.has x (.inl hk)
  obtain ⟨w',z⟩:=I.cell x c hc
  refine wpAny_storeName_cell I.ok.kind hk hc z (fun h' hc' hs => ?_)
  obtain ⟨oc,hoc,hocd⟩:=id z
  refine h { s with heap:=h' } ⟨I.ok,I.os,I.bare,⟨fun b o e n hb hx => ?_,fun b o e n hb hx => ?_,I.base.free,fun b o e hx => ?_,I.base.tups,I.base.frzs,I.base.tbls⟩,⟨m,hn.sameBut hs (Ne.symm (cne x c hc)),fun j y v' e1 e2 e3 => ?_⟩,fun y c' e => ?_,I.free,I.freeC,fun p hp => ?_,tracked ⟨oc,hoc,I.freeC x c hc⟩ hs,by simpa using I.len⟩ ⟨c,hs,.inr hc⟩
  ·exact (hs.2 b (Nat.ne_of_lt (Nat.lt_of_lt_of_le (Heap.lt_size e) (I.ok.cab x c hfn hc)))).trans (I.base.keep b o e n hb hx)
  ·obtain ⟨sl,e1⟩:=I.base.slot b o e n hb hx
   exact ⟨sl,(hs.2 b (Nat.ne_of_lt (Nat.lt_of_lt_of_le (Heap.lt_size e) (I.ok.cab x c hfn hc)))).trans e1⟩
  ·obtain ⟨o',e1⟩:=I.base.there b o e hx
   exact ⟨o',(hs.2 b (Nat.ne_of_lt (Nat.lt_of_lt_of_le (Heap.lt_size e) (I.ok.cab x c hfn hc)))).trans e1⟩
  ·by_cases hj:j=i
   ·subst hj
    rw [hi] at e1; cases e1
    rw [List.getElem?_set_self hiσ] at e2
    cases e2
    exact ⟨u,r,.inr ⟨.inl hk,c,hc,hc'⟩⟩
   ·rw [List.getElem?_set_ne (Ne.symm hj)] at e2
    obtain ⟨u',r',q⟩:=hl j y v' e1 e2 e3
    refine ⟨u',r',?_⟩
    rcases q with q | ⟨k,c',e,z'⟩
    ·exact .inl q
    ·refine .inr ⟨k,c',e,z'.sameBut hs ?_⟩
     rintro rfl
     exact hj (zfm hN e1 (I.ok.inj _ _ _ e hc ▸ hi))
  ·by_cases hcc:c'=c
   ·subst hcc; exact ⟨_,hc'⟩
   ·obtain ⟨w2,z2⟩:=I.cell y c' e
    exact ⟨w2,z2.sameBut hs hcc⟩
  ·obtain ⟨e,n,ne,nf,d⟩:=I.pin p hp
   refine ⟨(hs.2 p.1 ?_).trans e,n,ne,nf,d⟩
   intro q
   rw [q,hoc] at e
   have q':oc=p.2:=Option.some.inj e
   exact d w' (by rw [<- q']; exact hocd)
theorem zdt {M:Model} {A:Around} {E:Value->Shared->Prop} {i:Nat} {x:Str} {v:V} {u:Value} {Q:Unit->Shared->Prop} (I:Inv X pins σ H s) (hN:X.N.Nodup) (hi:X.N[i]?=some x) (hx:Loc X.env.scope x) (r:RelV v u)
  (h:∀ s',Inv X pins (σ.set i (some v)) H s'->Q () s') (hf:X.fn x=true\/X.env.scope.names.lookup x=some .local:=by first | exact .inl rfl | exact .inr rfl | assumption):wpAny M A (storeName X.env x u) Q E s :=
 zdW I hN hi hx r (fun s' I' _=>h s' I') hf
theorem Inv.call' {s':Shared} {ch:List Addr} (I:Inv X pins σ H s) (ho:s'.os=s.os) (u:Un (frs X.stack) ch H H' s.heap s'.heap) (hok:HOk X.prog X.w H' s'.heap) (hg:AllBare s'.gens)
  (hch:∀ b∈ch,(b∈X.ex\/X.s₀.heap.objs.size<=b)/\b≠X.env.locals/\(∀ x c,X.env.cells.lookup x=some c->c≠b)/\∀ p∈X.pn ++ pins,p.1≠b):Inv X pins σ H' s':=by
 obtain ⟨h',g',d',t',o'⟩:=s'
 have e:o'=s.os:=ho
 subst e
 exact I.call (g':=g') (t':=t') (d':=d') u hok hg hch
end
noncomputable abbrev XK:=Value->Option Addr->Hp->Prop
noncomputable abbrev St:=List (Option V)
noncomputable abbrev VK:=V->Hp->Prop
noncomputable abbrev TE:=St->Hp->VK->Prop
noncomputable abbrev TT:=St->Hp->(Bool->Hp->Prop)->Prop
noncomputable abbrev TA:=St->Hp->(List V->Hp->Prop)->Prop
structure Ends where
 nx:St->Hp->Prop
 rt:VK
 bk:St->Hp->Prop:=fun _ _=>False
 ct:St->Hp->Prop:=fun _ _=>False
noncomputable abbrev TS:=Ends->St->Hp->Prop
noncomputable def EP (X:Cx) (pins:List (Addr×Obj)) (σ : St) (Q:VK) (u:Value) (s':Shared):Prop:=∃ v H',Inv X pins σ H' s'/\RelV v u/\Q v H'
noncomputable def TP (X:Cx) (pins:List (Addr×Obj)) (σ : St) (Q:Bool->Hp->Prop) (b:Bool) (s':Shared):Prop:=∃ H',Inv X pins σ H' s'/\Q b H'
noncomputable def AP (X:Cx) (pins:List (Addr×Obj)) (σ : St) (Q:List V->Hp->Prop) (us:List Value) (s':Shared):Prop:=∃ vs H',Inv X pins σ H' s'/\Vals vs us/\Q vs H'
noncomputable def SP (X:Cx) (pins:List (Addr×Obj)) (D:Ends) (f:Flow) (s':Shared):Prop :=
 match f with
 | .next=>∃ σ' H',Inv X pins σ' H' s'/\D.nx σ' H'
 | .brk=>∃ σ' H',Inv X pins σ' H' s'/\D.bk σ' H'
 | .cont=>∃ σ' H',Inv X pins σ' H' s'/\D.ct σ' H'
 | .ret u=>∃ v σ' H',Inv X pins σ' H' s'/\RelV v u/\D.rt v H'
noncomputable def PE (X:Cx) (e:Expr) (t:TE):Prop :=
 ∀ (pins:List (Addr×Obj)) (s:Shared) (σ : St) (H:Hp) (Q:VK),Inv X pins σ H s->t σ H Q->wpAny (model X.prog X.w) X.A (eval e X.env) (EP X pins σ Q) X.xe s
noncomputable def PT (X:Cx) (e:Expr) (t:TT):Prop :=
 ∀ (pins:List (Addr×Obj)) (s:Shared) (σ : St) (H:Hp) (Q:Bool->Hp->Prop),Inv X pins σ H s->t σ H Q->wpAny (model X.prog X.w) X.A (isTrue e X.env (eval e X.env)) (TP X pins σ Q) X.xe s
noncomputable def PW (X:Cx) (e:Expr) (t:TT):Prop :=
 ∀ (whole:Sem Value) (pins:List (Addr×Obj)) (s:Shared) (σ : St) (H:Hp) (Q:Bool->Hp->Prop),Inv X pins σ H s->t σ H Q->wpAny (model X.prog X.w) X.A (isTrue e X.env whole) (TP X pins σ Q) X.xe s
theorem PW.pt {X:Cx} {e:Expr} {t:TT} (h:PW X e t):PT X e t:=h _
noncomputable def PA (X:Cx) (es:List Expr) (t:TA):Prop :=
 ∀ (pos:Pos) (pins:List (Addr×Obj)) (s:Shared) (σ : St) (H:Hp) (Q:List V->Hp->Prop),Inv X pins σ H s->t σ H Q->wpAny (model X.prog X.w) X.A (spliced (backTo pos (starEach es X.env))) (AP X pins σ Q) X.xe s
noncomputable def PS (X:Cx) (st:Stmt) (t:TS):Prop :=
 ∀ (pins:List (Addr×Obj)) (s:Shared) (σ : St) (H:Hp) (D:Ends),Inv X pins σ H s->t D σ H->wpAny (model X.prog X.w) X.A (exec st X.env) (SP X pins D) X.xe s
noncomputable def PSs (X:Cx) (st:List Stmt) (t:TS):Prop :=
 ∀ (pins:List (Addr×Obj)) (s:Shared) (σ : St) (H:Hp) (D:Ends),Inv X pins σ H s->t D σ H->wpAny (model X.prog X.w) X.A (execs st X.env) (SP X pins D) X.xe s
theorem thn {α : Type} {t:Sem α} {Q Q' : α -> Shared->Prop} {M:Model} {A:Around} {E:Value->Shared->Prop} {s:Shared} (h:wpAny M A t Q E s) (hQ:∀ a s,Q a s->Q' a s):wpAny M A t Q' E s:=wpAny_mono h hQ fun _ _ x=>x
theorem thnE {α β : Type} {Rl : β -> α -> Prop} {X:Cx} {pins:List (Addr×Obj)} {σ : St} {R : β -> Hp->Prop} {t:Sem α} {Q' : α -> Shared->Prop} {M:Model} {A:Around} {E:Value->Shared->Prop} {s:Shared} (h:wpAny M A t (fun u s'=>∃ v H',Inv X pins σ H' s'/\Rl v u/\R v H') E s) (k:∀ u s' v H',Inv X pins σ H' s'->Rl v u->R v H'->Q' u s'):wpAny M A t Q' E s:=wpAny_mono h (fun u s' z=>by
 obtain ⟨v,H',I,r,q⟩:=z
 exact k u s' v H' I r q) fun _ _ x=>x
section
variable {X:Cx}
noncomputable def tVar (i:Nat):TE:=fun σ H Q=>∃ v,σ[i]?=some (some v)/\Q v H
noncomputable def tC (v:V):TE:=fun _ H Q=>Q v H
theorem pe_var {i:Nat} {x:Str} {pos:Pos} (hN:X.N[i]?=some x) (hv:Vis X.env.scope x) (hd:(x == ("__debug__" : Str))=false:=by decide) (hcd:(x == ("__classdict__" : Str))=false:=by decide):PE X (.Name x pos) (tVar i):=by
 intro pins s σ H Q I h
 obtain ⟨v,e,h⟩:=h
 obtain ⟨m,hn,hl⟩:=I.loc
 obtain ⟨u,r,l⟩:=hl i x v hN e hv
 have fin:EP X pins σ Q u s:=⟨v,H,I,r,h⟩
 rcases l with ⟨hk,hm⟩ | ⟨hk,c,hc,hcell⟩
 ·exact wpAny_Name (wpAny_loadName_local I.ok.kind hk hn hm fin) hd
 ·rcases hk with hk | hk
  ·exact wpAny_Name (wpAny_loadName_cell I.ok.kind hk hc hcell fin) hd
  ·exact wpAny_Name (wpAny_loadName_free I.ok.kind hk hc hcell fin hcd) hd
theorem zac {i j pos}:PE X (.Constant (.int i) j pos) (tC (.int i)):=fun _ _ _ H _ I h=>wpAny_Constant_int ⟨.int i,H,I.tok _,⟨_,rfl⟩,h⟩
theorem zbI {b j pos}:PE X (.Constant (.bool b) j pos) (tC (.bl b)):=fun _ _ _ H _ I h=>Constant_bool ⟨.bl b,H,I,rfl,h⟩
theorem zgv {j pos}:PE X (.Constant .none j pos) (tC .non):=fun _ _ _ H _ I h=>Constant_none ⟨.non,H,I,rfl,h⟩
theorem zap {x j pos}:PE X (.Constant (.str x) j pos) (tC (.str x)):=fun _ _ _ H _ I h=>Calls.Constant_str ⟨.str x,H,I.tok _,⟨_,rfl⟩,h⟩
noncomputable def Gl (X:Cx) (x:Str):Prop:=X.env.kindOf x=some .globalImplicit
theorem zcn {E:Value->Shared->Prop} {pins:List (Addr×Obj)} {s:Shared} {σ : St} {H:Hp} {x:Str} {u:Value} {pos:Pos} {Q:Value->Shared->Prop} (I:Inv X pins σ H s) (hg:Gl X x) (hm:X.mg x=some u) (h:Q u s)
  (hd:(x == ("__debug__" : Str))=false:=by decide):wpAny (model X.prog X.w) X.A (eval (.Name x pos) X.env) Q E s :=
 Calls.Name_function_global I.ok.kind hg (Calls.loadGlobal_global (by rw [I.ok.glob]; exact I.mod.glob.keeps I.bk) hm h) hd
theorem zea {E:Value->Shared->Prop} {pins:List (Addr×Obj)} {s:Shared} {σ : St} {H:Hp} {x:Str} {u:Value} {pos:Pos} {Q:Value->Shared->Prop} (I:Inv X pins σ H s) (hg:Gl X x) (hm:X.mg x=none) (hv:bootBuiltins x=some u) (h:Q u s)
  (hn:x ≠ "__name__" := by decide) (hd:(x == ("__debug__" : Str))=false:=by decide):wpAny (model X.prog X.w) X.A (eval (.Name x pos) X.env) Q E s:=by
 obtain ⟨mb,h1,h2⟩:=I.mod.blt
 exact Calls.Name_function_global I.ok.kind hg (Calls.loadGlobal_builtin (by rw [I.ok.glob]; exact I.mod.glob.keeps I.bk) hm (by rw [I.ok.blt]; exact h1.keeps I.bk) ((h2 x hn).trans hv) h) hd
theorem zfT {x:Str} {v:V} {u:Value} {pos:Pos} (hg:Gl X x) (hm:X.mg x=some u) (r:RelV v u) (hd:(x == ("__debug__" : Str))=false:=by decide):PE X (.Name x pos) (tC v) :=
 fun _ _ _ H _ I h=>zcn I hg hm ⟨v,H,I,r,h⟩ hd
theorem zb1 {x:Str} {v:V} {u:Value} {pos:Pos} (hg:Gl X x) (hm:X.mg x=none) (hv:bootBuiltins x=some u) (r:RelV v u) (hn:x ≠ "__name__" := by decide) (hd:(x == ("__debug__" : Str))=false:=by decide):PE X (.Name x pos) (tC v) :=
 fun _ _ _ H _ I h=>zea I hg hm hv ⟨v,H,I,r,h⟩ hn hd
variable {a b:Expr} {ta tb:TE} {pos:Pos}
noncomputable def PC (X:Cx) (op:CmpOp) (a b:Expr) (t:TE):Prop :=
 ∀ (pins:List (Addr×Obj)) (s:Shared) (σ : St) (H:Hp) (Q:VK),Inv X pins σ H s->t σ H Q ->
  wpAny (model X.prog X.w) X.A (eval a X.env) (fun v s₁ => wpAny (model X.prog X.w) X.A (eval b X.env) (fun u s₂ => wpAny (model X.prog X.w) X.A (compareOp op v u) (EP X pins σ Q) X.xe s₂) X.xe s₁) X.xe s
noncomputable def tB (t:TE):TT:=fun σ H Q=>t σ H fun x H1=>∃ c,x = .bl c/\Q c H1
theorem pe_cmp {op:CmpOp} {t:TE} (h:PC X op a b t) (h1:behindInMarks op b=false:=by first | exact nobehind _ (by decide) (by decide) | rfl):PE X (.Compare a [op] [b] pos) t:=fun pins s σ H Q I hw=>wpAny_Compare1 (h pins s σ H Q I hw) h1
theorem zdZ {op:CmpOp} {t:TE} (h:PC X op a b t) (h1:behindInMarks op b=false:=by first | exact nobehind _ (by decide) (by decide) | rfl):PT X (.Compare a [op] [b] pos) (tB t):=by
 intro pins s σ H Q I hw
 refine wpAny_isTrue_Compare1 (thn (h pins s σ H _ I hw) fun v s1 h1=>thn h1 fun u s2 h2=>thn h2 fun c s3 ⟨x,H1,I1,r1,q1⟩ => ?_) h1
 obtain ⟨d,rfl,q⟩:=q1
 cases r1
 exact wpAny_truthy_bool ⟨H1,I1,q⟩
theorem zbv {e:Expr} {t:TE} (h:PE X e t) (he:∀ whole,isTrue e X.env whole=(do let v <- whole; standAt e.pos; holding [v] (truthy v)):=by intro _; rfl):PT X e (tB t):=by
 intro pins s σ H Q I hw
 refine isTrue_plain (thnE (h pins s σ H _ I hw) fun v s1 x H1 I1 r1 q1 => ?_) (he _)
 obtain ⟨d,rfl,q⟩:=q1
 cases r1
 exact wpAny_truthy_bool ⟨H1,I1,q⟩
variable {tA tB':TT} {rest:List Expr}
noncomputable def tAnd (t u:TT):TT:=fun σ H Q=>t σ H fun c H1=>if c=true then u σ H1 Q else Q false H1
noncomputable def tOr (t u:TT):TT:=fun σ H Q=>t σ H fun c H1=>if c=true then Q true H1 else u σ H1 Q
noncomputable def tNot (t:TT):TT:=fun σ H Q=>t σ H fun c H1=>Q (!c) H1
theorem pw_and1 (ha:PT X a tA):PW X (.BoolOp .And [a] pos) tA:=by
 intro wh pins s σ H Q I h
 refine isTrue_and (thn (ha pins s σ H Q I h) fun c s1 e => ?_)
 cases c with
 | true=>exact isTrue_and_nil e
 | false=>exact e
theorem zfc (ha:PT X a tA):PW X (.BoolOp .Or [a] pos) tA:=by
 intro wh pins s σ H Q I h
 refine isTrue_or (thn (ha pins s σ H Q I h) fun c s1 e => ?_)
 cases c with
 | false=>exact isTrue_or_nil e
 | true=>exact e
theorem pw_and (ha:PT X a tA) (hb:PW X (.BoolOp .And (b :: rest) pos) tB'):PW X (.BoolOp .And (a :: b :: rest) pos) (tAnd tA tB'):=by
 intro wh pins s σ H Q I h
 refine isTrue_and (thn (ha pins s σ H _ I h) fun c s1 ⟨H1,I1,q1⟩ => ?_)
 cases c with
 | true=>exact hb wh pins s1 σ H1 Q I1 q1
 | false=>exact ⟨H1,I1,q1⟩
theorem zfv (ha:PT X a tA) (hb:PW X (.BoolOp .Or (b :: rest) pos) tB'):PW X (.BoolOp .Or (a :: b :: rest) pos) (tOr tA tB'):=by
 intro wh pins s σ H Q I h
 refine isTrue_or (thn (ha pins s σ H _ I h) fun c s1 ⟨H1,I1,q1⟩ => ?_)
 cases c with
 | true=>exact ⟨H1,I1,q1⟩
 | false=>exact hb wh pins s1 σ H1 Q I1 q1
theorem zbp (ha:PT X a tA):PT X (.UnaryOp .Not a pos) (tNot tA):=by
 intro pins s σ H Q I h
 exact isTrue_not (ha pins s σ H (fun c H1=>Q (!c) H1) I h)
noncomputable def tAndV (ta tb:TE):TE:=fun σ H Q=>ta σ H fun x H1=>∃ c,x = .bl c/\if c=true then tb σ H1 Q else Q (.bl false) H1
noncomputable def tNotV (ta:TE):TE:=fun σ H Q=>ta σ H fun x H1=>∃ c,x = .bl c/\Q (.bl (!c)) H1
theorem zfh {op} {t:TE} (h:PE X a t):PE X (.BoolOp op [a] pos) t:=fun pins s σ H Q I hw=>BoolOp_one (h pins s σ H Q I hw)
theorem zd1 (ha:PE X a ta) (hb:PE X (.BoolOp .And (b :: rest) pos) tb):PE X (.BoolOp .And (a :: b :: rest) pos) (tAndV ta tb):=by
 intro pins s σ H Q I h
 refine BoolOp_and (thnE (ha pins s σ H _ I h) fun v s1 x H1 I1 r1 q1 => ?_)
 obtain ⟨c,rfl,q1⟩:=q1
 cases r1
 refine wpAny_truthy_bool ?_
 cases c with
 | true=>exact hb pins s1 σ H1 Q I1 q1
 | false=>exact ⟨.bl false,H1,I1,rfl,q1⟩
theorem pe_not (ha:PE X a ta):PE X (.UnaryOp .Not a pos) (tNotV ta):=by
 intro pins s σ H Q I h
 refine UnaryOp_ (thnE (ha pins s σ H _ I h) fun v s1 x H1 I1 r1 q1 => ?_)
 obtain ⟨c,rfl,q1⟩:=q1
 cases r1
 exact not_of (wpAny_truthy_bool ⟨.bl (!c),H1,I1,rfl,q1⟩)
noncomputable def tIf (t:TT) (ta tb:TE):TE:=fun σ H Q=>t σ H fun c H1=>if c=true then ta σ H1 Q else tb σ H1 Q
theorem pe_ifExp {c:Expr} (hc:PT X c tA) (ha:PE X a ta) (hb:PE X b tb):PE X (.IfExp c a b pos) (tIf tA ta tb):=by
 intro pins s σ H Q I h
 refine wpAny_IfExp (thn (hc pins s σ H _ I h) fun d s1 ⟨H1,I1,q1⟩ => ?_)
 cases d with
 | true=>exact ha pins s1 σ H1 Q I1 q1
 | false=>exact hb pins s1 σ H1 Q I1 q1
end
noncomputable def SqL (K:W.Frag) (H:Hp) (a:Addr) (xs:List V):Prop :=
 Rd H a (.lst xs) \/
  ∃ (o:Obj) (its:Array Value) (n:Nat),K.lookup a=some o/\o.cls = .type "list" /\ o.dict=none/\o.data = .seq its n/\its.size<=sizeLine/\Vals xs its.toList
noncomputable def SqT (K:W.Frag) (H:Hp) (a:Addr) (xs:List V):Prop :=
 Rd H a (.tup xs) \/
  ∃ (o:Obj) (its:Array Value) (n:Nat),K.lookup a=some o/\o.cls = .type "tuple" /\ o.data = .seq its n/\its.size<=sizeLine/\Vals xs its.toList
noncomputable def absV:Value->Option V
 | .none=>some .non
 | .bool b=>some (.bl b)
 | .int i _=>some (.int i)
 | .str x _=>some (.str x)
 | .bytes b _=>some (.byt b)
 | .float b _=>some (.flt b)
 | .ref a=>some (.ref a)
 | .type n=>some (.ty n)
 | _=>none
theorem RelV.abs {x:V} {u:Value} (r:RelV x u):absV u=some x:=by
 cases x with
 | non=>cases r; rfl
 | bl _=>cases r; rfl
 | int _=>obtain ⟨t,rfl⟩:=r; rfl
 | str _=>obtain ⟨t,rfl⟩:=r; rfl
 | byt _=>obtain ⟨t,rfl⟩:=r; rfl
 | flt _=>obtain ⟨t,rfl⟩:=r; rfl
 | ref _=>cases r; rfl
 | ty _=>cases r; rfl
theorem RelV.inj {x y:V} {u:Value} (r:RelV x u) (q:RelV y u):x=y:=Option.some.inj (r.abs.symm.trans q.abs)
theorem Vals.inj:∀ {xs ys:List V} {us:List Value},Vals xs us->Vals ys us->xs=ys
 | _,_,_,.nil,.nil=>rfl
 | _,_,_,.cons r t,.cons r' t'=>by rw [r.inj r',Vals.inj t t']
section
variable {X:Cx} {pins:List (Addr×Obj)} {σ : St} {H:Hp} {s:Shared} {a:Addr} {xs ys:List V}
theorem SqL.of {K:W.Frag} (h:H a=some (.lst xs)):SqL K H a xs := .inl (.inl h)
theorem SqT.of {K:W.Frag} (h:H a=some (.tup xs)):SqT K H a xs := .inl (.inl h)
theorem Inv.list (I:Inv X pins σ H s) (h:SqL X.K H a xs):∃ its:List Value,Vals xs its/\PlainL s.heap a its.toArray/\xs.length<=sizeLine:=by
 rcases h with h | ⟨o,its,n,hk,hc,hd,hs,hz,r⟩
 ·obtain ⟨z,its,n,r,e⟩:=h.ok I.hok
  exact ⟨its,r,⟨_,n,e,rfl,rfl,rfl⟩,z⟩
 ·refine ⟨its.toList,r,⟨o,n,I.kIn a o hk,hc,hd,by simpa using hs⟩,?_⟩
  have e:=r.length
  simp only [Array.length_toList] at e
  omega
theorem Inv.tuple (I:Inv X pins σ H s) (h:SqT X.K H a xs):∃ its:List Value,Vals xs its/\IsTup s.heap a its.toArray/\xs.length<=sizeLine:=by
 rcases h with h | ⟨o,its,n,hk,hc,hs,hz,r⟩
 ·obtain ⟨z,its,r,p⟩:=h.ok I.hok
  exact ⟨its,r,p,z⟩
 ·refine ⟨its.toList,r,⟨o,I.kIn a o hk,hc,n,by simpa using hs⟩,?_⟩
  have e:=r.length
  simp only [Array.length_toList] at e
  omega
theorem Inv.list_inj (I:Inv X pins σ H s) (h:SqL X.K H a xs) (h':SqL X.K H a ys):xs=ys:=by
 obtain ⟨its,r,⟨o,n,e,_,_,d⟩,_⟩:=I.list h
 obtain ⟨its',r',⟨o',n',e',_,_,d'⟩,_⟩:=I.list h'
 rw [e] at e'; cases e'
 rw [d] at d'
 injection d' with d1 _
 have:its=its':=by simpa using congrArg Array.toList d1
 subst this
 exact r.inj r'
end
noncomputable abbrev Cx.wish (X:Cx) (E:Value->Shared->Prop):Cx:={ X with xe:=E }
noncomputable abbrev Cx.nox (X:Cx):Cx:=X.wish fun _ _=>False
theorem Cx.Ok.wish {X:Cx} (ok:X.Ok) (E:Value->Shared->Prop):(X.wish E).Ok :=
 ⟨ok.mod,ok.kind,ok.glob,ok.blt,ok.above,ok.inj,ok.has,ok.cab,ok.hd,ok.frames,ok.stk,ok.exf,ok.bs,ok.bsz,ok.noex,ok.exfs,ok.funs,ok.frf⟩
theorem Cx.Ok.unwish {X:Cx} {E:Value->Shared->Prop} (ok:(X.wish E).Ok):X.Ok :=
 ⟨ok.mod,ok.kind,ok.glob,ok.blt,ok.above,ok.inj,ok.has,ok.cab,ok.hd,ok.frames,ok.stk,ok.exf,ok.bs,ok.bsz,ok.noex,ok.exfs,ok.funs,ok.frf⟩
section
variable {X:Cx} {pins:List (Addr×Obj)} {σ : St} {H:Hp} {s:Shared} {E:Value->Shared->Prop}
theorem Inv.wish (I:Inv X pins σ H s) (E:Value->Shared->Prop):Inv (X.wish E) pins σ H s:=⟨I.ok.wish E,I.os,I.bare,I.base,I.loc,I.cell,I.free,I.freeC,I.pin,I.hok,I.len⟩
theorem Inv.unwish (I:Inv (X.wish E) pins σ H s):Inv X pins σ H s:=⟨I.ok.unwish,I.os,I.bare,I.base,I.loc,I.cell,I.free,I.freeC,I.pin,I.hok,I.len⟩
theorem SP.unwish {D:Ends} {f:Flow} {s':Shared} (h:SP (X.wish E) pins D f s'):SP X pins D f s':=by
 cases f with
 | next=>obtain ⟨σ',H',I,q⟩:=h; exact ⟨σ',H',I.unwish,q⟩
 | brk=>obtain ⟨σ',H',I,q⟩:=h; exact ⟨σ',H',I.unwish,q⟩
 | cont=>obtain ⟨σ',H',I,q⟩:=h; exact ⟨σ',H',I.unwish,q⟩
 | ret u=>obtain ⟨v,σ',H',I,r,q⟩:=h; exact ⟨v,σ',H',I.unwish,r,q⟩
theorem PSs.nox {st:List Stmt} {t:TS} (h:PSs X.nox st t):PSs X st t:=fun pins s σ H D I hw =>
 wpAny_mono (h pins s σ H D (I.wish _) hw) (fun _ _ q=>q.unwish) fun _ _ z=>False.elim z
end
section
variable {X:Cx} {st:Stmt} {rest:List Stmt} {t u:TS} {e:Expr} {te:TE} {pos:Pos}
noncomputable def tNext:TS:=fun D σ H=>D.nx σ H
noncomputable def tSeq (t u:TS):TS:=fun D σ H=>t { D with nx:=u D } σ H
theorem zan:PSs X [] tNext:=fun _ _ σ H _ I h=>wpAny_execs_nil ⟨σ,H,I,h⟩
theorem zad (h1:PS X st t) (h2:PSs X rest u):PSs X (st :: rest) (tSeq t u):=by
 intro pins s σ H D I h
 refine wpAny_execs_cons (thn (h1 pins s σ H { D with nx:=u D } I h) fun f s1 q => ?_)
 cases f with
 | next =>
  obtain ⟨σ',H',I',q⟩:=q
  exact h2 pins s1 σ' H' D I' q
 | ret v=>exact q
 | brk=>exact q
 | cont=>exact q
theorem zaf (h1:PS X st t):PSs X [st] t:=by
 intro pins s σ H D I h
 refine wpAny_execs_cons (thn (h1 pins s σ H D I h) fun f s1 q => ?_)
 cases f with
 | next=>exact wpAny_execs_nil q
 | ret v=>exact q
 | brk=>exact q
 | cont=>exact q
theorem Inv.quiet {pins:List (Addr×Obj)} {σ : St} {H:Hp} {s:Shared} (I:Inv X pins σ H s):interactive X.env=false:=by simp [interactive,I.ok.kind]
noncomputable def tDrop (te:TE):TS:=fun D σ H=>te σ H fun _ H1=>D.nx σ H1
theorem zaI (he:PE X e te) (hs:swapsWith e none pos.line X.env=pure false:=by rfl):PS X (.Expr e pos) (tDrop te):=by
 intro pins s σ H D I h
 exact wpAny_Expr_any (thnE (he pins s σ H _ I h) fun v s1 x H1 I1 r1 q1=>⟨σ,H1,I1,q1⟩) I.quiet hs
noncomputable def tRet (te:TE):TS:=fun D σ H=>te σ H D.rt
theorem zaj (he:PE X e te):PS X (.Return (some e) pos) (tRet te):=by
 intro pins s σ H D I h
 exact wpAny_Return_some (thnE (he pins s σ H _ I h) fun v s1 x H1 I1 r1 q1=>⟨x,σ,H1,I1,r1,q1⟩)
noncomputable def tIfS (c:TT) (t u:TS):TS:=fun D σ H=>c σ H fun b H1=>if b=true then t D σ H1 else u D σ H1
theorem zaG {c:Expr} {a b:List Stmt} {tc:TT} (hc:PT X c tc) (ha:PSs X a t) (hb:PSs X b u):PS X (.If c a b pos) (tIfS tc t u):=by
 intro pins s σ H D I h
 refine wpAny_If (thn (hc pins s σ H _ I h) fun d s1 ⟨H1,I1,q1⟩ => ?_)
 cases d with
 | true=>exact ha pins s1 σ H1 D I1 q1
 | false=>exact hb pins s1 σ H1 D I1 q1
end
noncomputable abbrev TG:=V->St->Hp->(St->Hp->Prop)->Prop
noncomputable abbrev TGs:=List V->St->Hp->(St->Hp->Prop)->Prop
noncomputable def PG (X:Cx) (target:Expr) (t:TG):Prop :=
 ∀ (pins:List (Addr×Obj)) (s:Shared) (σ : St) (H:Hp) (v:V) (u:Value) (Q:St->Hp->Prop),Inv X pins σ H s->RelV v u->t v σ H Q ->
  wpAny (model X.prog X.w) X.A (assign target X.env u) (fun _ s'=>∃ σ' H',Inv X pins σ' H' s'/\Q σ' H') X.xe s
noncomputable def PGs (X:Cx) (ts:List Expr) (t:TGs):Prop :=
 ∀ (pins:List (Addr×Obj)) (s:Shared) (σ : St) (H:Hp) (vs:List V) (us:List Value) (Q:St->Hp->Prop),Inv X pins σ H s->Vals vs us->t vs σ H Q ->
  wpAny (model X.prog X.w) X.A (assignInOrder ((assignEach ts X.env).map (·.2)) us) (fun _ s'=>∃ σ' H',Inv X pins σ' H' s'/\Q σ' H') X.xe s
noncomputable abbrev TSet:=V->V->V->Hp->(Hp->Prop)->Prop
noncomputable def PSet (X:Cx) (t:TSet):Prop :=
 ∀ (pins:List (Addr×Obj)) (s:Shared) (σ : St) (H:Hp) (o i v:V) (ov iv u:Value) (Q:Hp->Prop),Inv X pins σ H s->RelV o ov->RelV i iv->RelV v u->t o i v H Q ->
  wpAny (model X.prog X.w) X.A (setItem ov iv u) (fun _ s'=>∃ H',Inv X pins σ H' s'/\Q H') X.xe s
section
variable {X:Cx} {pos:Pos}
noncomputable def gName (i:Nat):TG:=fun v σ H Q=>Q (σ.set i (some v)) H
theorem zai {i:Nat} {x:Str} (hN:X.N.Nodup) (hi:X.N[i]?=some x) (hx:Loc X.env.scope x) (hf:X.fn x=true\/X.env.scope.names.lookup x=some .local:=by first | exact .inl rfl | exact .inr rfl | assumption):PG X (.Name x pos) (gName i):=by
 intro pins s σ H v u Q I r h
 exact wpAny_assign_Name (zdt I hN hi hx r (fun s' I'=>⟨_,H,I',h⟩) hf)
noncomputable def gNil:TGs:=fun vs σ H Q=>vs = []/\Q σ H
noncomputable def gCons (t:TG) (u:TGs):TGs:=fun vs σ H Q=>∃ v r,vs=v :: r/\t v σ H fun σ' H'=>u r σ' H' Q
theorem zbs:PGs X [] gNil:=by
 intro pins s σ H vs us Q I r h
 obtain ⟨e,h⟩:=h
 subst e
 cases r
 exact assignInOrder_nil ⟨σ,H,I,h⟩
theorem zax {e:Expr} {es:List Expr} {t:TG} {u:TGs} (h1:PG X e t) (h2:PGs X es u)
  (hs:(assignEach (e :: es) X.env).map (·.2)=assign e X.env :: (assignEach es X.env).map (·.2):=by rfl):PGs X (e :: es) (gCons t u):=by
 intro pins s σ H vs us Q I r h
 obtain ⟨v,vr,e1,h⟩:=h
 subst e1
 cases r with
 | cons r rr =>
  rw [hs]
  refine assignInOrder_cons (thn (h1 pins s σ H _ _ _ I r h) fun _ s1 ⟨σ1,H1,I1,q1⟩ => ?_)
  exact h2 pins s1 σ1 H1 _ _ Q I1 rr q1
noncomputable def gTup (K:W.Frag) (n:Nat) (t:TGs):TG:=fun v σ H Q=>∃ a xs,v = .ref a/\SqT K H a xs/\xs.length=n/\t xs σ H Q
theorem zdh {es:List Expr} {k:Nat} {t:TGs} {n:Nat} (hc:X.calm=true) (h:PGs X es t)
  (hn:(assignEach es X.env).length=n:=by rfl) (hst:(assignEach es X.env).findIdx? (·.1)=none:=by rfl):PG X (.Tuple es k pos) (gTup X.K n t):=by
 intro pins s σ H v u Q I r hw
 obtain ⟨a,xs,e1,hq,hl,hw⟩:=hw
 subst e1
 cases r
 obtain ⟨its,rv,ht,hz⟩:=I.tuple hq
 refine assign_Tuple_tuple (I.ok.hd hc) ht (by simp [hn,<- hl,rv.length]) hst fun h' hx => ?_
 have I1:Inv X pins σ H { s with heap:=h' }:=I.kept (t':=s.toks) fun b o e=>hx b o (Nat.ne_of_lt (Heap.lt_size e)) e
 exact h pins _ σ H xs _ Q I1 (by simpa using rv) hw
noncomputable def gSub (to ti:TE) (t:TSet):TG:=fun v σ H Q=>to σ H fun o H1=>ti σ H1 fun i H2=>t o i v H2 fun H3=>Q σ H3
theorem zgu {o i:Expr} {to ti:TE} {t:TSet} (ho:PE X o to) (hi:PE X i ti) (hs:PSet X t)
  (ha:∀ v,assign (.Subscript o i pos) X.env v=(do
   let ov <- holding [v] (eval o X.env)
   let iv <- holding [v,ov] (eval i X.env)
   standAt pos
   holding [v,ov,iv] (setItem ov iv v)
   release [v,ov,iv] []):=by intro _; rfl):PG X (.Subscript o i pos) (gSub to ti t):=by
 intro pins s σ H v u Q I r h
 rw [ha]
 refine wpAny_bind (wpAny_holding (thnE (ho pins s σ H _ I h) fun ov s1 x H1 I1 r1 q1 => ?_))
 refine wpAny_bind (wpAny_holding (thnE (hi pins s1 σ H1 _ I1 q1) fun iv s2 y H2 I2 r2 q2 => ?_))
 refine wpAny_bind (wpAny_standAt (wpAny_bind (wpAny_holding (thn (hs pins s2 σ H2 x y v ov iv u _ I2 r1 r2 r q2) fun _ s3 ⟨H3,I3,q3⟩ => ?_))))
 exact wpAny_release ⟨σ,H3,I3,q3⟩
noncomputable def tAsg (te:TE) (g:TG):TS:=fun D σ H=>te σ H fun x H1=>g x σ H1 D.nx
theorem zgs {tg e:Expr} {te:TE} {g:TG} (he:PE X e te) (hg:PG X tg g) (hs:swapsWithSole [tg] e pos.line X.env=pure false:=by rfl) (hw:swappedStores [tg] e X.env=pure none:=by rfl)
  (h1:(assignEach [tg] X.env).map (·.2) = [assign tg X.env]:=by rfl):PS X (.Assign [tg] e pos) (tAsg te g):=by
 intro pins s σ H D I h
 refine wpAny_Assign_stores (thnE (he pins s σ H _ I h) fun v s1 x H1 I1 r1 q1 => ?_) hs hw
 rw [h1]
 exact thn (hg pins s1 σ H1 x v _ I1 r1 q1) fun _ s2 q=>q
theorem zam {i:Nat} {x:Str} {e:Expr} {te:TE} {pos':Pos} (hN:X.N.Nodup) (hi:X.N[i]?=some x) (hx:Loc X.env.scope x) (he:PE X e te) (hs:swapsWith e (some (.Name x pos')) pos.line X.env=pure false:=by rfl) (hf:X.fn x=true\/X.env.scope.names.lookup x=some .local:=by first | exact .inl rfl | exact .inr rfl | assumption) :
  PS X (.Assign [.Name x pos'] e pos) (tAsg te (gName i)):=by
 intro pins s σ H D I h
 refine wpAny_Assign_Name (thnE (he pins s σ H _ I h) fun v s1 y H1 I1 r1 q1 => ?_) hs
 exact zdt I1 hN hi hx r1 (fun s2 I2=>⟨_,H1,I2,q1⟩) hf
end
section
variable {X:Cx} {pos:Pos}
noncomputable def tWhile (c:TT) (tb:TS):TS:=fun D σ H=>∃ W:Nat->St->Hp->Prop,(∃ m,W m σ H)/\∀ m σ H,W m σ H ->
 c σ H fun b H1=>if b=true then ∃ N:St->Hp->Prop,(∀ σ' H',N σ' H'->∃ m',m' < m/\W m' σ' H')/\tb { D with nx:=N,ct:=N,bk:=D.nx } σ H1 else D.nx σ H1
theorem zfe {c:Expr} {body:List Stmt} {tc:TT} {tb:TS} (hp:PassesOwn (model X.prog X.w) X.A X.env X.xe) (hc:PT X c tc) (hb:PSs X body tb):PS X (.While c body [] pos) (tWhile tc tb):=by
 intro pins s σ H D I h
 obtain ⟨W,⟨m0,w0⟩,turn⟩:=h
 refine wpAny_While (codeAny_whileLoop (fun n s'=>∃ σ' H',Inv X pins σ' H' s'/\W n σ' H') ?_ m0 ⟨σ,H,I,w0⟩)
 rintro n s1 ⟨σ1,H1,I1,w1⟩
 refine wpAny_passesOwn hp (thn (hc pins s1 σ1 H1 _ I1 (turn n σ1 H1 w1)) fun b s2 ⟨H2,I2,q2⟩ => ?_)
 cases b with
 | true =>
  obtain ⟨N,hN,q2⟩:=q2
  rw [if_pos rfl]
  refine wpAny_passesOwn hp (thn (hb pins s2 σ1 H2 _ I2 q2) fun f s3 q3 => ?_)
  cases f with
  | next =>
   obtain ⟨σ3,H3,I3,n3⟩:=q3
   obtain ⟨m',hm,w3⟩:=hN σ3 H3 n3
   exact ⟨m',hm,σ3,H3,I3,w3⟩
  | cont =>
   obtain ⟨σ3,H3,I3,n3⟩:=q3
   obtain ⟨m',hm,w3⟩:=hN σ3 H3 n3
   exact ⟨m',hm,σ3,H3,I3,w3⟩
  | brk=>exact q3
  | ret v=>exact q3
 | false =>
  rw [if_neg Bool.false_ne_true]
  exact wpAny_execs_nil ⟨σ1,H2,I2,q2⟩
end
structure It where
 go:Nat->Hp->Prop
 yld:Nat->Hp->V->Hp->Prop
 stop:Nat->Hp->Prop
noncomputable def FpOk (X:Cx) (pins:List (Addr×Obj)) (H:Hp) (b:Addr):Prop :=
 H b=none/\b≠X.env.locals/\b ∉ X.fs/\(b∈X.ex\/X.s₀.heap.objs.size<=b)/\(∀ x c,X.env.cells.lookup x=some c->c≠b)/\∀ p∈X.pn ++ pins,p.1≠b
theorem Inv.fpOk {X:Cx} {pins:List (Addr×Obj)} {σ : St} {H H':Hp} {s:Shared} {b:Addr} (I:Inv X pins σ H s) (hb:s.heap.objs.size<=b) (hn:H' b=none):FpOk X pins H' b:=by
 refine ⟨hn,Nat.ne_of_gt (Nat.lt_of_lt_of_le I.lt hb),I.nofs hb,.inr (Nat.le_trans I.sz hb),fun x c e z => ?_,fun p hp z => ?_⟩
 ·obtain ⟨v,q⟩:=I.cell x c e
  exact absurd (Nat.lt_of_lt_of_le q.lt (by rw [z]; exact hb)) (Nat.lt_irrefl _)
 ·exact absurd (Nat.lt_of_lt_of_le (Heap.lt_size (I.pin p hp).1) (by rw [z]; exact hb)) (Nat.lt_irrefl _)
structure Turn (P:Program) (w:World) (K:W.Frag) (tg:Expr) (J:It) (fp:List Addr) (it:Addr) (tn:Nat->Heap->Prop):Prop where
 mem:it∈fp
 obj:∀ i h,tn i h->∀ b∈fp,∃ o,h.get? b=some o/\∀ v,o.data ≠ .cell v
 keep:∀ i h h',tn i h->(∀ b∈fp,∀ o,h.get? b=some o->h'.get? b=some o)->tn i h'
 item:∀ (X:Cx),X.prog=P->X.w=w->X.K=K->X.calm=true->∀ (i:Nat) (pins:List (Addr×Obj)) (s:Shared) (σ : St) (H:Hp) (E:Value->Shared->Prop),Inv X pins σ H s->(∀ b∈fp,FpOk X pins H b)->tn i s.heap->J.go i H ->
  wpAny (model P w) X.A (pyNext (.ref it)) (fun r s1=>∃ u,r=some u /\
   wpAny (model P w) X.A (letOwnedTupleGo tg (.ref it) u) (fun _ s2=>∃ x H',Inv X pins σ H' s2/\RelV x u/\J.yld i H x H'/\tn (i + 1) s2.heap/\∀ b∈fp,H' b=none) E s1) E s
 done:∀ (X:Cx),X.prog=P->X.w=w->X.K=K->X.calm=true->∀ (i:Nat) (pins:List (Addr×Obj)) (s:Shared) (σ : St) (H:Hp) (E:Value->Shared->Prop),Inv X pins σ H s->(∀ b∈fp,FpOk X pins H b)->tn i s.heap->J.stop i H ->
  wpAny (model P w) X.A (pyNext (.ref it)) (fun r s1=>r=none/\Inv X pins σ H s1) E s
 self:∀ (A:Around) (i:Nat) (s:Shared) (Q:Value->Shared->Prop) (E:Value->Shared->Prop),tn i s.heap->Q (.ref it) s->wpAny (model P w) A (pyIter (.ref it)) Q E s
noncomputable abbrev TI:=St->Hp->(It->Hp->Prop)->Prop
noncomputable def PIE (X:Cx) (pins:List (Addr×Obj)) (σ : St) (tg:Expr) (R:It->Hp->Prop) (itv:Value) (s2:Shared):Prop :=
 ∃ (it:Addr) (fp:List Addr) (tn:Nat->Heap->Prop) (J:It) (H':Hp),itv = .ref it/\Inv X pins σ H' s2/\Turn X.prog X.w X.K tg J fp it tn/\tn 0 s2.heap/\(∀ b∈fp,FpOk X pins H' b)/\R J H'
noncomputable def PI (X:Cx) (tg iter:Expr) (wi:TI):Prop :=
 ∀ (pins:List (Addr×Obj)) (s:Shared) (σ : St) (H:Hp) (R:It->Hp->Prop),Inv X pins σ H s->wi σ H R ->
  wpAny (model X.prog X.w) X.A (eval iter X.env) (fun v s1=>wpAny (model X.prog X.w) X.A (pyIter v) (PIE X pins σ tg R) X.xe s1) X.xe s
theorem zf5 {M:Model} {A:Around} {E:Value->Shared->Prop} {s:Shared} {tg:Expr} {it:Addr} {u:Value} {o:Obj} {n:String} {vs:Array Value} {Q:Unit->Shared->Prop} (ho:s.heap.get? it=some o) (hc:o.cls = .type n) (hd:o.data = .fields vs)
  (hn : ["enumerate","zip","dict_itemiterator","dict_reverseitemiterator","odict_iterator","itertools.zip_longest","itertools.pairwise"].contains n=false) (hQ:Q () s):wpAny M A (letOwnedTupleGo tg (.ref it) u) Q E s:=by
 unfold letOwnedTupleGo
 cases tg <;> first
  | exact wpAny_pure hQ
  | (cases u <;> first
    | exact wpAny_pure hQ
    | (refine wpAny_bind (wpAny_load ho ?_)
       rw [hc,hd]
       show wpAny M A (if (["enumerate","zip","dict_itemiterator","dict_reverseitemiterator","odict_iterator","itertools.zip_longest","itertools.pairwise"].contains n && vs[0]? == some (rawInt _))=true then _ else _) Q E s
       rw [if_neg (by intro h; rw [hn,Bool.false_and] at h; cases h)]
       exact wpAny_pure hQ))
noncomputable def Itl (K:W.Frag) (a:Addr):It :=
 ⟨fun i H=>∃ xs x,SqL K H a xs/\xs[i]?=some x,fun i H x H'=>H'=H/\∀ xs,SqL K H a xs->xs[i]?=some x,fun i H=>∃ xs,SqL K H a xs/\xs.length<=i⟩
noncomputable def Itr (lo:Int) (n:Nat):It:=⟨fun i _=>i < n,fun i H x H'=>H'=H/\x = .int (lo + i),fun i _=>n<=i⟩
theorem turn_list {P:Program} {w:World} {K:W.Frag} {tg:Expr} (a it:Addr):Turn P w K tg (Itl K a) [it] it (fun i h=>h.IsListIter it a i) where
 mem:=by simp
 obj:=fun i h st b hb=>by
  have e:b=it:=by simpa using hb
  subst e
  obtain ⟨o,e,c,d⟩:=st
  exact ⟨o,e,fun v z=>by rw [d] at z; cases z⟩
 keep:=fun i h h' st k=>st.at fun o e=>k it (by simp) o e
 item:=by
  intro X hP hw hK hc i pins s σ H E I hf st hg
  subst hP hw hK
  obtain ⟨xs,x,hq,hx⟩:=hg
  obtain ⟨its,rv,p,hz⟩:=I.list hq
  obtain ⟨u,hu,ru⟩:=rv.get hx
  obtain ⟨f0,f1,f2,f3,f4,f5⟩:=hf it (by simp)
  refine wpAny_pyNext_list_item st p.isList (x:=u) (by simpa using hu) fun h' st' sb => ?_
  have I1:Inv X pins σ H { s with heap:=h' }:=I.turned (t':=s.toks) (fun b o hb e=>(sb.2 b hb).trans e) f0 f1 f3 f4 f5
  obtain ⟨o,e,c,d⟩:=id st'
  exact ⟨u,rfl,zf5 (s:={ s with heap:=h' }) e c d (by decide) ⟨x,H,I1,ru,⟨rfl,fun ys hy=>by rw [I.list_inj hy hq]; exact hx⟩,st',fun b hb=>(hf b hb).1⟩⟩
 done:=by
  intro X hP hw hK hc i pins s σ H E I hf st hg
  subst hP hw hK
  obtain ⟨xs,hq,hx⟩:=hg
  obtain ⟨its,rv,p,hz⟩:=I.list hq
  obtain ⟨f0,f1,f2,f3,f4,f5⟩:=hf it (by simp)
  have hl:=rv.length
  exact wpAny_pyNext_list_end (I.ok.hd hc) st p.isList (by simp; omega) fun h' eb=>⟨rfl,I.turned (t':=s.toks) (fun b o hb e=>eb b o hb e) f0 f1 f3 f4 f5⟩
 self:=fun _ _ _ _ _ st h=>wpAny_pyIter_listiter st h
theorem turn_range {P:Program} {w:World} {K:W.Frag} {tg:Expr} (it:Addr) (lo:Int) (n:Nat):Turn P w K tg (Itr lo n) [it] it (fun i h=>IsRangeIter h it (lo + (i:Nat) * 1) ((n:Int) - (i:Nat)) 1) where
 mem:=by simp
 obj:=fun i h st b hb=>by
  have e:b=it:=by simpa using hb
  subst e
  exact ⟨_,st,fun v z=>by
   have z':Data.fields _=Data.cell v:=z
   cases z'⟩
 keep:=fun i h h' st k=>k it (by simp) _ st
 item:=by
  intro X hP hw hK hc i pins s σ H E I hf st hg
  subst hP hw hK
  obtain ⟨f0,f1,f2,f3,f4,f5⟩:=hf it (by simp)
  have W:=Walks.range (prog:=X.prog) (w:=X.w) (I.ok.hd hc) it lo 1 n
  refine W.item i s _ _ hg st fun v h' tk hv st' kk => ?_
  obtain ⟨t,rfl⟩:=hv
  have I1:Inv X pins σ H { s with heap:=h',toks:=tk }:=I.turned (fun b o hb e=>kk b o (by simpa using hb) e) f0 f1 f3 f4 f5
  refine ⟨_,rfl,zf5 (s:={ s with heap:=h',toks:=tk }) (n := "range_iterator") st' rfl rfl (by decide) ⟨.int (lo + i),H,I1,⟨t,?_⟩,⟨rfl,rfl⟩,st',fun b hb=>(hf b hb).1⟩⟩
  rw [Int.mul_one]
 done:=by
  intro X hP hw hK hc i pins s σ H E I hf st hg
  subst hP hw hK
  obtain ⟨f0,f1,f2,f3,f4,f5⟩:=hf it (by simp)
  exact wpAny_pyNext_range_end (I.ok.hd hc) st (by have:n<=i:=hg; omega) fun h' eb=>⟨rfl,I.turned (t':=s.toks) (fun b o hb e=>eb b o hb e) f0 f1 f3 f4 f5⟩
 self:=fun _ _ _ _ _ st h=>wpAny_pyIter_rangeiter st h
section
variable {X:Cx} {tg:Expr}
noncomputable def iList (K:W.Frag) (tl:TE):TI:=fun σ H R=>tl σ H fun x H1=>∃ a,x = .ref a/\(∃ xs,SqL K H1 a xs)/\R (Itl K a) H1
theorem zar {l:Expr} {tl:TE} (hl:PE X l tl):PI X tg l (iList X.K tl):=by
 intro pins s σ H R I h
 refine thnE (hl pins s σ H _ I h) fun v s1 x H1 I1 r1 q1 => ?_
 obtain ⟨a,e,⟨xs,hq⟩,q⟩:=q1
 subst e
 cases r1
 obtain ⟨its,rv,p,hz⟩:=I1.list hq
 refine wpAny_pyIter_list p.isList ?_
 refine ⟨s1.heap.objs.size,[s1.heap.objs.size],_,_,H1,rfl,I1.kept (t':=s1.toks) fun b o e=>Heap.get?_push_of_some _ e,turn_list a _,⟨_,Heap.get?_push_size _ rfl,rfl,rfl⟩,fun b hb => ?_,q⟩
 have e:b=s1.heap.objs.size:=by simpa using hb
 subst e
 exact I1.fpOk (Nat.le_refl _) (I1.hok.fresh (Nat.le_refl _))
theorem range_it {pins:List (Addr×Obj)} {σ : St} {H:Hp} {s:Shared} {R:It->Hp->Prop} {E:Value->Shared->Prop} {lo hi:Int} {t u v:Tok} {tk:Nat} (I:Inv X pins σ H s) (h1 : -(2 ^ 62)<=lo) (h2:lo < 2 ^ 62) (h3 : -(2 ^ 62)<=hi) (h4:hi < 2 ^ 62)
  (q:R (Itr lo (hi - lo).toNat) H):wpAny (model X.prog X.w) X.A (pyIter (.ref s.heap.objs.size)) (PIE X pins σ tg R) E { s with heap:=s.heap.push { cls := .type "range",data := .fields #[.int lo t,.int hi u,.int 1 v] },toks:=tk }:=by
 refine wpAny_pyIter_range (IsRange.new ..) (small_one h1 h2 h3 h4) ?_
 have I1:Inv X pins σ H { s with heap:=s.heap.push { cls := .type "range",data := .fields #[.int lo t,.int hi u,.int 1 v] },toks:=tk }:=I.kept fun b o e=>Heap.get?_push_of_some _ e
 refine ⟨(s.heap.push { cls := .type "range",data := .fields #[.int lo t,.int hi u,.int 1 v] }).objs.size,[(s.heap.push { cls := .type "range",data := .fields #[.int lo t,.int hi u,.int 1 v] }).objs.size],_,_,H,rfl,
  I1.kept (t':=tk) fun b o e=>Heap.get?_push_of_some _ e,turn_range _ lo (hi - lo).toNat,?_,fun b hb => ?_,q⟩
 ·have e1:lo + ((0:Nat):Int) * 1=lo:=by simp
  have e2:(((hi - lo).toNat:Nat):Int) - ((0:Nat):Int)=Builtin.Range.rangeSize lo hi 1:=by rw [rangeSize_one]; split <;> omega
  show IsRangeIter _ _ (lo + ((0:Nat):Int) * 1) ((((hi - lo).toNat:Nat):Int) - ((0:Nat):Int)) 1
  rw [e1,e2]
  exact Heap.get?_push_size _ rfl
 ·have e:b=(s.heap.push { cls := .type "range",data := .fields #[.int lo t,.int hi u,.int 1 v] }).objs.size:=by simpa using hb
  subst e
  exact I1.fpOk (Nat.le_refl _) (I1.hok.fresh (Nat.le_refl _))
noncomputable def iRng1 (ta:TA):TI:=fun σ H R=>ta σ H fun vs H1=>∃ j:Int,vs = [.int j] /\ -(2 ^ 62)<=j/\j < 2 ^ 62/\R (Itr 0 j.toNat) H1
theorem za0 {a:Expr} {ta:TA} {p pos:Pos} (hg:Gl X "range") (hm:X.mg "range" = none) (ha:PA X [a] ta) (hs:starEach [a] X.env = [(false,eval a X.env)]:=by rfl):PI X tg (.Call (.Name "range" p) [a] [] pos) (iRng1 ta):=by
 intro pins s σ H R I h
 refine Call_ (zea I hg hm boot_range (PyProof.Rows.callWith_type1 (thnE (ha pos pins s σ H _ I h) fun us s1 vs H1 I1 r1 q1 => ?_) hs rfl))
 obtain ⟨j,e,q1,q2,q⟩:=q1
 subst e
 cases r1 with
 | cons r rr =>
  cases rr
  obtain ⟨t,rfl⟩:=r
  exact call_range_1 (range_it I1 (by omega) (by omega) q1 q2 (by simpa using q))
noncomputable def tFor (wi:TI) (g:TG) (tb:TS):TS:=fun D σ H=>wi σ H fun J H1=>∃ W:Nat->Nat->St->Hp->Prop,(∃ m,W 0 m σ H1)/\∀ i m σ H,W i m σ H ->
 (J.stop i H/\D.nx σ H)\/(J.go i H/\∃ N:St->Hp->Prop,(∀ σ' H',N σ' H'->∃ m',m' < m/\W (i + 1) m' σ' H')/\∀ x H',J.yld i H x H'->g x σ H' fun σ2 H2=>tb { D with nx:=N,ct:=N,bk:=D.nx } σ2 H2)
noncomputable def pinsAt (fp:List Addr) (h:Heap):List (Addr×Obj):=fp.filterMap fun b=>(h.get? b).map fun o=>(b,o)
theorem zbR {fp:List Addr} {h:Heap} {b:Addr} {o:Obj} (hb:b∈fp) (e:h.get? b=some o):(b,o)∈pinsAt fp h:=List.mem_filterMap.mpr ⟨b,hb,by rw [e]; rfl⟩
theorem of_pinsAt {fp:List Addr} {h:Heap} {p:Addr×Obj} (hp:p∈pinsAt fp h):p.1∈fp/\h.get? p.1=some p.2:=by
 obtain ⟨b,hb,e⟩:=List.mem_filterMap.mp hp
 cases q:h.get? b with
 | none=>rw [q] at e; cases e
 | some o =>
  rw [q] at e
  have e':(b,o)=p:=Option.some.inj e
  subst e'
  exact ⟨hb,q⟩
theorem Inv.pinned {pins:List (Addr×Obj)} {σ : St} {H:Hp} {s:Shared} {fp:List Addr} (I:Inv X pins σ H s) (hf:∀ b∈fp,FpOk X pins H b) (ho:∀ b∈fp,∃ o,s.heap.get? b=some o/\∀ v,o.data ≠ .cell v):Inv X (pins ++ pinsAt fp s.heap) σ H s :=
 I.pins_of fun p hp=>(List.mem_append.mp hp).elim (fun z=>I.pin p (List.mem_append_right _ z)) fun z=>by
  obtain ⟨hb,e⟩:=of_pinsAt z
  obtain ⟨f0,f1,f2,_⟩:=hf p.1 hb
  obtain ⟨o,e',d⟩:=ho p.1 hb
  rw [e] at e'; cases e'
  exact ⟨e,f0,f1,f2,d⟩
theorem Inv.unpinned {pins pl:List (Addr×Obj)} {σ : St} {H:Hp} {s:Shared} (I:Inv X (pins ++ pl) σ H s):Inv X pins σ H s:=I.pins_of fun p hp=>I.pin p (List.mem_append_right _ (List.mem_append_left _ hp))
theorem zaT {iter:Expr} {body:List Stmt} {wi:TI} {g:TG} {tb:TS} {pos:Pos} (hp:PassesOwn (model X.prog X.w) X.A X.env X.xe) (hc:X.calm=true) (hi:PI X tg iter wi) (hg:PG X tg g) (hb:PSs X body tb)
  (hs:∀ x,foldedSetIterable iter X.env x=pure x:=by intro _; rfl):PS X (.For tg iter body [] pos) (tFor wi g tb):=by
 intro pins s σ H D I h
 refine wpAny_For (thn (hi pins s σ H _ I h) fun v s1 h1=>thn h1 fun itv s2 h2 => ?_) hs
 obtain ⟨it,fp,tn,J,H2,e,I2,T,st2,f2,W,⟨m0,w0⟩,turn⟩:=h2
 subst e
 have stat:∀ {H':Hp},(∀ b∈fp,H' b=none)->∀ b∈fp,FpOk X pins H' b:=fun hn b hb=>⟨hn b hb,(f2 b hb).2⟩
 refine codeAny_forLoop_any (fun n s'=>∃ i σ' H',Inv X pins σ' H' s'/\tn i s'.heap/\(∀ b∈fp,H' b=none)/\W i n σ' H') ?_ m0 ⟨0,σ,H2,I2,st2,fun b hb=>(f2 b hb).1,w0⟩
 rintro n s3 ⟨i,σ3,H3,I3,st3,fr3,w3⟩
 rcases turn i n σ3 H3 w3 with ⟨stop,qn⟩ | ⟨go,N,hN,step⟩
 ·refine wpAny_passesOwn hp (thn (T.done X rfl rfl rfl hc i pins s3 σ3 H3 X.xe I3 (stat fr3) st3 stop) fun r s4 ⟨hr,I4⟩ => ?_)
  subst hr
  exact wpAny_execs_nil ⟨σ3,H3,I4,qn⟩
 ·refine wpAny_passesOwn hp (thn (T.item X rfl rfl rfl hc i pins s3 σ3 H3 X.xe I3 (stat fr3) st3 go) fun r s4 ⟨u,hr,h4⟩ => ?_)
  subst hr
  refine wpAny_passesOwn hp (thn h4 fun _ s5 ⟨x,H5,I5,r5,y5,st5,fr5⟩ => ?_)
  have I5':=I5.pinned (stat fr5) (T.obj _ _ st5)
  refine wpAny_passesOwn hp (thn (hg _ s5 σ3 H5 x u _ I5' r5 (step x H5 y5)) fun _ s6 ⟨σ6,H6,I6,q6⟩ => ?_)
  refine wpAny_passesOwn hp (thn (hb _ s6 σ6 H6 _ I6 q6) fun f s7 q7 => ?_)
  have again:∀ {σ7:St} {H7:Hp},Inv X (pins ++ pinsAt fp s5.heap) σ7 H7 s7->N σ7 H7->∃ m,m < n/\∃ i σ' H',Inv X pins σ' H' s7/\tn i s7.heap/\(∀ b∈fp,H' b=none)/\W i m σ' H':=fun {σ7 H7} I7 n7=>by
   obtain ⟨m',hm,w7⟩:=hN σ7 H7 n7
   refine ⟨m',hm,i + 1,σ7,H7,I7.unpinned,T.keep _ _ _ st5 fun b hb o e=>(I7.pin (b,o) (List.mem_append_right _ (List.mem_append_right _ (zbR hb e)))).1,fun b hb => ?_,w7⟩
   obtain ⟨o,e,d⟩:=T.obj _ _ st5 b hb
   exact (I7.pin (b,o) (List.mem_append_right _ (List.mem_append_right _ (zbR hb e)))).2.1
  cases f with
  | next=>obtain ⟨σ7,H7,I7,n7⟩:=q7; exact again I7 n7
  | cont=>obtain ⟨σ7,H7,I7,n7⟩:=q7; exact again I7 n7
  | brk=>obtain ⟨σ7,H7,I7,q7⟩:=q7; exact ⟨σ7,H7,I7.unpinned,q7⟩
  | ret v=>obtain ⟨x7,σ7,H7,I7,r7,q7⟩:=q7; exact ⟨x7,σ7,H7,I7.unpinned,r7,q7⟩
end
noncomputable abbrev R2:=V->V->Hp->VK->Prop
noncomputable def OpR (X:Cx) (f:Value->Value->Sem Value) (r:R2):Prop :=
 ∀ (pins:List (Addr×Obj)) (s:Shared) (σ : St) (H:Hp) (x y:V) (v u:Value) (Q:VK),Inv X pins σ H s->RelV x v->RelV y u->r x y H Q ->
  wpAny (model X.prog X.w) X.A (f v u) (EP X pins σ Q) X.xe s
noncomputable def UnR (X:Cx) (f:Value->Sem Value) (r:V->Hp->VK->Prop):Prop :=
 ∀ (pins:List (Addr×Obj)) (s:Shared) (σ : St) (H:Hp) (x:V) (v:Value) (Q:VK),Inv X pins σ H s->RelV x v->r x H Q ->
  wpAny (model X.prog X.w) X.A (f v) (EP X pins σ Q) X.xe s
noncomputable def CallR (X:Cx) (f:Value) (r:List V->Hp->VK->Prop):Prop :=
 ∀ (pins:List (Addr×Obj)) (s:Shared) (σ : St) (H:Hp) (xs:List V) (us:List Value) (Q:VK),Inv X pins σ H s->Vals xs us->r xs H Q ->
  wpAny (model X.prog X.w) X.A (call f us) (EP X pins σ Q) X.xe s
noncomputable def tOp (r:R2) (ta tb:TE):TE:=fun σ H Q=>ta σ H fun x H1=>tb σ H1 fun y H2=>r x y H2 Q
noncomputable def tUn (r:V->Hp->VK->Prop) (ta:TE):TE:=fun σ H Q=>ta σ H fun x H1=>r x H1 Q
noncomputable def rI (C:Int->Int->Prop) (g:Int->Int->V):R2:=fun x y H Q=>∃ i j,x = .int i/\y = .int j/\C i j/\Q (g i j) H
noncomputable def rI0 (g:Int->Int->V):R2:=fun x y H Q=>∃ i j,x = .int i/\y = .int j/\Q (g i j) H
noncomputable def rU (g:Int->V):V->Hp->VK->Prop:=fun x H Q=>∃ i,x = .int i/\Q (g i) H
section
variable {X:Cx} {a b c:Expr} {ta tb tc:TE} {pos:Pos}
theorem binT (ha:PE X a ta) (hb:PE X b tb) {pins:List (Addr×Obj)} {s:Shared} {σ : St} {H:Hp} {R:V->V->Hp->Prop} (I:Inv X pins σ H s)
  (h:ta σ H fun x H1=>tb σ H1 fun y H2=>R x y H2) {Q:Value->Shared->Prop} {f:Value->Value->Sem Value}
  (hf:∀ v u s2 x y H2,Inv X pins σ H2 s2->RelV x v->RelV y u->R x y H2->wpAny (model X.prog X.w) X.A (f v u) Q X.xe s2) :
  wpAny (model X.prog X.w) X.A (eval a X.env) (fun v s₁ => wpAny (model X.prog X.w) X.A (eval b X.env) (fun u s₂ => wpAny (model X.prog X.w) X.A (f v u) Q X.xe s₂) X.xe s₁) X.xe s:=by
 refine thnE (ha pins s σ H _ I h) fun v s1 x H1 I1 r1 q1 => ?_
 refine thnE (hb pins s1 σ H1 _ I1 q1) fun u s2 y H2 I2 r2 q2 => ?_
 exact hf v u s2 x y H2 I2 r1 r2 q2
theorem zav {op:Operator} {r:R2} (ho:OpR X (binaryOp op) r) (ha:PE X a ta) (hb:PE X b tb):PE X (.BinOp a op b pos) (tOp r ta tb):=by
 intro pins s σ H Q I h
 exact wpAny_BinOp (binT ha hb I h fun v u s2 x y H2 I2 rx ry q=>ho pins s2 σ H2 x y v u Q I2 rx ry q)
theorem zfS {op:UnaryOp} {r:V->Hp->VK->Prop} (ho:UnR X (unaryOp op) r) (ha:PE X a ta):PE X (.UnaryOp op a pos) (tUn r ta):=by
 intro pins s σ H Q I h
 exact UnaryOp_ (thnE (ha pins s σ H _ I h) fun v s1 x H1 I1 r1 q1=>ho pins s1 σ H1 x v Q I1 r1 q1)
theorem opI {f:Value->Value->Sem Value} {C:Int->Int->Prop} {g:Int->Int->Int}
  (rule:∀ (i j:Int) (t u:Tok) (s:Shared) (Q:Value->Shared->Prop) (E:Value->Shared->Prop),C i j->Q (.int (g i j) s.toks) { s with toks:=s.toks + 1 }->wpAny (model X.prog X.w) X.A (f (.int i t) (.int j u)) Q E s) :
  OpR X f (rI C fun i j => .int (g i j)):=by
 intro pins s σ H x y v u Q I rx ry h
 obtain ⟨i,j,rfl,rfl,hc,q⟩:=h
 obtain ⟨t,rfl⟩:=rx
 obtain ⟨t',rfl⟩:=ry
 exact rule i j t t' s _ _ hc ⟨.int (g i j),H,I.tok _,⟨_,rfl⟩,q⟩
theorem opI0 {f:Value->Value->Sem Value} {g:Int->Int->Int}
  (rule:∀ (i j:Int) (t u:Tok) (s:Shared) (Q:Value->Shared->Prop) (E:Value->Shared->Prop),Q (.int (g i j) s.toks) { s with toks:=s.toks + 1 }->wpAny (model X.prog X.w) X.A (f (.int i t) (.int j u)) Q E s) :
  OpR X f (rI0 fun i j => .int (g i j)):=by
 intro pins s σ H x y v u Q I rx ry h
 obtain ⟨i,j,rfl,rfl,q⟩:=h
 obtain ⟨t,rfl⟩:=rx
 obtain ⟨t',rfl⟩:=ry
 exact rule i j t t' s _ _ ⟨.int (g i j),H,I.tok _,⟨_,rfl⟩,q⟩
theorem opB0 {f:Value->Value->Sem Value} {g:Int->Int->Bool}
  (rule:∀ (i j:Int) (t u:Tok) (s:Shared) (Q:Value->Shared->Prop) (E:Value->Shared->Prop),Q (.bool (g i j)) s->wpAny (model X.prog X.w) X.A (f (.int i t) (.int j u)) Q E s) :
  OpR X f (rI0 fun i j => .bl (g i j)):=by
 intro pins s σ H x y v u Q I rx ry h
 obtain ⟨i,j,rfl,rfl,q⟩:=h
 obtain ⟨t,rfl⟩:=rx
 obtain ⟨t',rfl⟩:=ry
 exact rule i j t t' s _ _ ⟨.bl (g i j),H,I,rfl,q⟩
noncomputable def CDiv (i j:Int):Prop:=0 < j/\j < 1073741824
noncomputable def CMul (i j:Int):Prop:=(-(2 ^ 64) < i/\i < 2 ^ 64)\/(-(2 ^ 64) < j/\j < 2 ^ 64)
theorem CMul.ok {i j:Int} (h:CMul i j):IntMulOk i j:=by
 rcases h with ⟨h1,h2⟩ | ⟨h1,h2⟩
 ·exact .of_left (intBits_le_64 h1 h2)
 ·exact .of_right (intBits_le_64 h1 h2)
theorem two_pow_nn (k:Nat):(0:Int)<=2 ^ k:=by
 rw [two_pow_cast]
 exact Int.natCast_nonneg _
theorem zbr:OpR X (binaryOp .Add) (rI0 fun i j => .int (i + j)):=opI0 fun _ _ _ _ _ _ _ q=>add_int q
theorem zdi:OpR X (binaryOp .Sub) (rI0 fun i j => .int (i - j)):=opI0 fun _ _ _ _ _ _ _ q=>sub_int q
theorem zd3:OpR X (binaryOp .Mult) (rI CMul fun i j => .int (i * j)):=opI fun _ _ _ _ _ _ _ hc q=>mul_int q hc.ok
theorem zbN:OpR X (binaryOp .FloorDiv) (rI CDiv fun i j => .int (i / j)):=opI fun i j _ _ _ _ _ hc q=>by
 have h1:(0:Int) < j:=hc.1
 have h2:j < 1073741824:=hc.2
 exact floordiv_int (by omega) (by rw [Int.fdiv_eq_ediv_of_nonneg i (by omega)]; exact q) (.inl (PyProof.noPylong_small (by omega)))
theorem zbq:OpR X (binaryOp .Mod) (rI (fun _ j=>0 < j) fun i j => .int (i % j)):=opI fun i j _ _ _ _ _ hc q=>by
 have h1:(0:Int) < j:=hc
 exact mod_int' (by omega) (by rw [Int.fmod_eq_emod_of_nonneg i (by omega)]; exact q)
theorem op_shr:OpR X (binaryOp .RShift) (rI (fun _ j=>0<=j) fun i j => .int (i / 2 ^ j.toNat)):=opI fun i j _ _ _ _ _ hc q =>
 rshift_int hc (by rw [Int.fdiv_eq_ediv_of_nonneg i (two_pow_nn _)]; exact q)
theorem zgw:OpR X (binaryOp .BitAnd) (rI0 fun i j => .int (Builtin.bitAnd i j)):=opI0 fun _ _ _ _ _ _ _ q=>and_int q
theorem unI {f:Value->Sem Value} {g:Int->Int}
  (rule:∀ (i:Int) (t:Tok) (s:Shared) (Q:Value->Shared->Prop) (E:Value->Shared->Prop),Q (.int (g i) s.toks) { s with toks:=s.toks + 1 }->wpAny (model X.prog X.w) X.A (f (.int i t)) Q E s) :
  UnR X f (rU fun i => .int (g i)):=by
 intro pins s σ H x v Q I rx h
 obtain ⟨i,rfl,q⟩:=h
 obtain ⟨t,rfl⟩:=rx
 exact rule i t s _ _ ⟨.int (g i),H,I.tok _,⟨_,rfl⟩,q⟩
theorem zdT:UnR X (unaryOp .USub) (rU fun i => .int (-i)):=unI fun _ _ _ _ _ q=>neg_int q
end
noncomputable def scal:V->V->Bool
 | .non,.non=>true | .non,.int _=>true | .int _,.non=>true | .non,.bl _=>true | .bl _,.non=>true | .non,.str _=>true | .str _,.non=>true
 | .int _,.int _=>true | .bl _,.bl _=>true | .str _,.str _=>true | .byt _,.byt _=>true
 | .int _,.str _=>true | .str _,.int _=>true | .bl _,.str _=>true | .str _,.bl _=>true
 | _,_=>false
noncomputable def rEq:R2:=fun x y H Q=>scal x y=true/\Q (.bl (decide (x=y))) H
noncomputable def rNe:R2:=fun x y H Q=>scal x y=true/\Q (.bl (!decide (x=y))) H
theorem zgd {i j:Int}:decide (V.int i=V.int j)=(i == j):=by
 rw [Bool.eq_iff_iff]
 simp
theorem zgI {i j:Bool}:decide (V.bl i=V.bl j)=(i == j):=by
 rw [Bool.eq_iff_iff]
 simp
theorem zgb {i j:Str}:decide (V.str i=V.str j)=(i == j):=by
 rw [Bool.eq_iff_iff]
 simp
theorem zge {i j:Array UInt8}:decide (V.byt i=V.byt j)=(i.toList == j.toList):=by
 rw [Bool.eq_iff_iff]
 cases i
 cases j
 simp
section
variable {X:Cx} {a b c:Expr} {ta tb tc:TE} {pos:Pos}
theorem zaB {pins:List (Addr×Obj)} {σ : St} {H:Hp} {s:Shared} {Q:VK} {k k':Bool} (I:Inv X pins σ H s) (q:Q (.bl k) H) (e:k=k'):EP X pins σ Q (.bool k') s:=by
 subst e
 exact ⟨.bl k,H,I,rfl,q⟩
theorem zbT:OpR X (compareOp .Eq) rEq:=by
 intro pins s σ H x y v u Q I rx ry h
 obtain ⟨hs,q⟩:=h
 cases x with
 | non =>
  cases rx
  cases y with
  | non=>cases ry; exact PySem.EqNone.eq_none_none (zaB I q (by simp))
  | bl j=>cases ry; exact PySem.EqNone.eq_none_bool (zaB I q (by simp))
  | int j=>obtain ⟨t',rfl⟩:=ry; exact PySem.EqNone.eq_none_int (zaB I q (by simp))
  | str j=>obtain ⟨t',rfl⟩:=ry; exact PySem.EqNone.eq_none_str (zaB I q (by simp))
  | _=>exact absurd (show false=true from hs) Bool.false_ne_true
 | bl i =>
  cases rx
  cases y with
  | non=>cases ry; exact PySem.EqNone.eq_bool_none (zaB I q (by simp))
  | bl j=>cases ry; exact eq_bool (zaB I q zgI)
  | str j=>obtain ⟨t',rfl⟩:=ry; exact PySem.EqMixed.eq_bool_str (zaB I q (by simp))
  | _=>exact absurd (show false=true from hs) Bool.false_ne_true
 | int i =>
  obtain ⟨t,rfl⟩:=rx
  cases y with
  | non=>cases ry; exact PySem.EqNone.eq_int_none (zaB I q (by simp))
  | int j=>obtain ⟨t',rfl⟩:=ry; exact eq_int (zaB I q zgd)
  | str j=>obtain ⟨t',rfl⟩:=ry; exact PySem.EqMixed.eq_int_str (zaB I q (by simp))
  | _=>exact absurd (show false=true from hs) Bool.false_ne_true
 | str i =>
  obtain ⟨t,rfl⟩:=rx
  cases y with
  | non=>cases ry; exact PySem.EqNone.eq_str_none (zaB I q (by simp))
  | bl j=>cases ry; exact PySem.EqMixed.eq_str_bool (zaB I q (by simp))
  | int j=>obtain ⟨t',rfl⟩:=ry; exact PySem.EqMixed.eq_str_int (zaB I q (by simp))
  | str j=>obtain ⟨t',rfl⟩:=ry; exact eq_str (zaB I q zgb)
  | _=>exact absurd (show false=true from hs) Bool.false_ne_true
 | byt i =>
  obtain ⟨t,rfl⟩:=rx
  cases y with
  | byt j=>obtain ⟨t',rfl⟩:=ry; exact PySem.W.eq_bytes (zaB I q zge)
  | _=>exact absurd (show false=true from hs) Bool.false_ne_true
 | _=>cases y <;> exact absurd (show false=true from hs) Bool.false_ne_true
theorem zeB:OpR X (compareOp .NotEq) rNe:=by
 intro pins s σ H x y v u Q I rx ry h
 obtain ⟨hs,q⟩:=h
 cases x with
 | non =>
  cases rx
  cases y with
  | non=>cases ry; exact PySem.EqNone.ne_none_none (zaB I q (by simp))
  | bl j=>cases ry; exact PySem.EqNone.ne_none_bool (zaB I q (by simp))
  | int j=>obtain ⟨t',rfl⟩:=ry; exact PySem.EqNone.ne_none_int (zaB I q (by simp))
  | str j=>obtain ⟨t',rfl⟩:=ry; exact PySem.EqNone.ne_none_str (zaB I q (by simp))
  | _=>exact absurd (show false=true from hs) Bool.false_ne_true
 | bl i =>
  cases rx
  cases y with
  | non=>cases ry; exact PySem.EqNone.ne_bool_none (zaB I q (by simp))
  | bl j=>cases ry; exact ne_bool (zaB I q (congrArg not zgI))
  | str j=>obtain ⟨t',rfl⟩:=ry; exact PySem.EqMixed.ne_bool_str (zaB I q (by simp))
  | _=>exact absurd (show false=true from hs) Bool.false_ne_true
 | int i =>
  obtain ⟨t,rfl⟩:=rx
  cases y with
  | non=>cases ry; exact PySem.EqNone.ne_int_none (zaB I q (by simp))
  | int j=>obtain ⟨t',rfl⟩:=ry; exact ne_int (zaB I q (congrArg not zgd))
  | str j=>obtain ⟨t',rfl⟩:=ry; exact PySem.EqMixed.ne_int_str (zaB I q (by simp))
  | _=>exact absurd (show false=true from hs) Bool.false_ne_true
 | str i =>
  obtain ⟨t,rfl⟩:=rx
  cases y with
  | non=>cases ry; exact PySem.EqNone.ne_str_none (zaB I q (by simp))
  | bl j=>cases ry; exact PySem.EqMixed.ne_str_bool (zaB I q (by simp))
  | int j=>obtain ⟨t',rfl⟩:=ry; exact PySem.EqMixed.ne_str_int (zaB I q (by simp))
  | str j=>obtain ⟨t',rfl⟩:=ry; exact ne_str (zaB I q (congrArg not zgb))
  | _=>exact absurd (show false=true from hs) Bool.false_ne_true
 | byt i =>
  obtain ⟨t,rfl⟩:=rx
  cases y with
  | byt j=>obtain ⟨t',rfl⟩:=ry; exact PySem.W.ne_bytes (zaB I q (congrArg not zge))
  | _=>exact absurd (show false=true from hs) Bool.false_ne_true
 | _=>cases y <;> exact absurd (show false=true from hs) Bool.false_ne_true
theorem zg1:OpR X (compareOp .Lt) (rI0 fun i j => .bl (decide (i < j))):=opB0 fun _ _ _ _ _ _ _ q=>lt_int q
theorem zd5:OpR X (compareOp .LtE) (rI0 fun i j => .bl (decide (i<=j))):=opB0 fun _ _ _ _ _ _ _ q=>le_int q
theorem zgm:OpR X (compareOp .Gt) (rI0 fun i j => .bl (decide (j < i))):=opB0 fun _ _ _ _ _ _ _ q=>gt_int q
theorem zgR:OpR X (compareOp .GtE) (rI0 fun i j => .bl (decide (j<=i))):=opB0 fun _ _ _ _ _ _ _ q=>ge_int q
theorem op_notN:OpR X (compareOp .IsNot) (fun x y H Q=>y = .non/\Q (.bl (!decide (x = .non))) H):=by
 intro pins s σ H x y v u Q I rx ry h
 obtain ⟨rfl,q⟩:=h
 cases ry
 refine isnot_none_gen (zaB I q ?_)
 cases x <;> first
  | (cases rx; rfl)
  | (obtain ⟨t,rfl⟩:=rx; rfl)
theorem zat (b:Expr) {op:CmpOp} (h:op ≠ .In:=by decide) (h2:op ≠ .NotIn:=by decide):behindInMarks op b=false:=by
 have e1:(op == CmpOp.In)=false:=by cases op <;> first | rfl | exact absurd rfl h
 have e2:(op == CmpOp.NotIn)=false:=by cases op <;> first | rfl | exact absurd rfl h2
 cases b <;> simp [behindInMarks,e1,e2]
theorem zcJ {op:CmpOp} {r:R2} (ho:OpR X (compareOp op) r) (ha:PE X a ta) (hb:PE X b tb) (hm:behindInMarks op b=false):PE X (.Compare a [op] [b] pos) (tOp r ta tb):=by
 intro pins s σ H Q I h
 exact wpAny_Compare1 (binT ha hb I h fun v u s2 x y H2 I2 rx ry q=>ho pins s2 σ H2 x y v u Q I2 rx ry q) hm
noncomputable def tTest (t:TE):TT:=fun σ H Q=>t σ H fun x H'=>∃ k,x = .bl k/\Q k H'
theorem zao {op:CmpOp} {r:R2} (ho:OpR X (compareOp op) r) (ha:PE X a ta) (hb:PE X b tb) (hm:behindInMarks op b=false):PT X (.Compare a [op] [b] pos) (tTest (tOp r ta tb)):=by
 intro pins s σ H Q I h
 refine wpAny_isTrue_Compare1 (thnE (ha pins s σ H _ I h) fun v s1 x H1 I1 r1 q1=>thnE (hb pins s1 σ H1 _ I1 q1) fun u s2 y H2 I2 r2 q2 =>
  thnE (ho pins s2 σ H2 x y v u _ I2 r1 r2 q2) fun c s3 z H3 I3 r3 ⟨k,e,q3⟩ => ?_) hm
 subst e
 cases r3
 exact wpAny_truthy_bool ⟨H3,I3,q3⟩
noncomputable def tChain (r r':R2) (ta tb tc:TE):TE:=fun σ H Q=>ta σ H fun x H1=>tb σ H1 fun y H2=>r x y H2 fun z H3=>∃ k,z = .bl k /\
 (if k=true then tc σ H3 fun w' H4=>r' y w' H4 Q else Q (.bl false) H3)
theorem zfj {op op':CmpOp} {r r':R2} (ho:OpR X (compareOp op) r) (ho':OpR X (compareOp op') r') (ha:PE X a ta) (hb:PE X b tb) (hc:PE X c tc)
  (hm:lastMarks [op,op'] [b,c]=false:=by with_unfolding_all rfl):PE X (.Compare a [op,op'] [b,c] pos) (tChain r r' ta tb tc):=by
 intro pins s σ H Q I h
 refine Compare_chain (thnE (ha pins s σ H _ I h) fun v s1 x H1 I1 r1 q1=>chain_link (thnE (hb pins s1 σ H1 _ I1 q1) fun u s2 y H2 I2 r2 q2 =>
  thnE (ho pins s2 σ H2 x y v u _ I2 r1 r2 q2) fun d s3 z H3 I3 r3 ⟨k,e,q3⟩ => ?_)) hm
 subst e
 cases r3
 refine wpAny_truthy_bool ?_
 cases k with
 | false=>exact ite_ff ⟨.bl false,H3,I3,rfl,q3⟩
 | true=>exact ite_tt (chain_last (thnE (hc pins s3 σ H3 _ I3 q3) fun w' s4 z' H4 I4 r4 q4=>ho' pins s4 σ H4 y z' u w' Q I4 r2 r4 q4))
theorem zdv {op op':CmpOp} {r r':R2} (ho:OpR X (compareOp op) r) (ho':OpR X (compareOp op') r') (ha:PE X a ta) (hb:PE X b tb) (hc:PE X c tc)
  (hm:lastMarks [op,op'] [b,c]=false:=by with_unfolding_all rfl):PT X (.Compare a [op,op'] [b,c] pos) (tTest (tChain r r' ta tb tc)):=by
 intro pins s σ H Q I h
 refine isTrue_chain (thnE (ha pins s σ H _ I h) fun v s1 x H1 I1 r1 q1=>test_link (thnE (hb pins s1 σ H1 _ I1 q1) fun u s2 y H2 I2 r2 q2 =>
  thnE (ho pins s2 σ H2 x y v u _ I2 r1 r2 q2) fun d s3 z H3 I3 r3 ⟨k,e,q3⟩ => ?_)) hm
 subst e
 cases r3
 refine wpAny_truthy_bool ?_
 cases k with
 | false =>
  obtain ⟨k',e',q'⟩:=q3
  cases e'
  exact ite_ff ⟨H3,I3,q'⟩
 | true =>
  refine ite_tt (test_last (thnE (hc pins s3 σ H3 _ I3 q3) fun w' s4 z' H4 I4 r4 q4=>thnE (ho' pins s4 σ H4 y z' u w' _ I4 r2 r4 q4) fun d' s5 z2 H5 I5 r5 ⟨k2,e2,q5⟩ => ?_))
  subst e2
  cases r5
  exact wpAny_truthy_bool ⟨H5,I5,q5⟩
theorem zdj:(sizeLine:Nat) < 2 ^ 63:=by rw [sizeLine_eq]; decide
theorem op_add_str:OpR X (binaryOp .Add) (fun x y H Q=>∃ i j,x = .str i/\y = .str j/\i.length + j.length<=sizeLine/\Q (.str (i ++ j)) H):=by
 intro pins s σ H x y v u Q I rx ry h
 obtain ⟨i,j,rfl,rfl,hz,q⟩:=h
 obtain ⟨t,rfl⟩:=rx
 obtain ⟨t',rfl⟩:=ry
 exact add_str (fun t' tk=>⟨.str (i ++ j),H,I.tok _,⟨_,rfl⟩,q⟩) hz
theorem zb5 {x:V} {us:List Value} (r:Vals [x] us):∃ u,us = [u]/\RelV x u:=by
 cases r with
 | cons r1 r2=>cases r2; exact ⟨_,rfl,r1⟩
theorem zgW {x y:V} {us:List Value} (r:Vals [x,y] us):∃ u w',us = [u,w']/\RelV x u/\RelV y w':=by
 cases r with
 | cons r1 r2 =>
  cases r2 with
  | cons r3 r4=>cases r4; exact ⟨_,_,rfl,r1,r3⟩
end
structure ObjM (h:Heap) (x dx C:Addr) (mA:Str->Option Value):Prop where
 obj:h.get? x=some (PySem.W.instObj C dx)
 ns:h.Ns1 dx mA
 ne:dx≠x
theorem lookIn_ns {h:Heap} {dx:Addr} {mA:Str->Option Value} (n:h.Ns1 dx mA):∃ od,h.get? dx=some od/\∀ name,PySem.W.lookIn name od=some (mA name):=by
 obtain ⟨o,es,ep,ho,hd,hk,_,hm⟩:=n
 refine ⟨o,ho,fun name => ?_⟩
 have e:=hm name
 unfold nsFind findBy at e
 rw [<- Array.find?_toList] at e
 unfold PySem.W.lookIn
 rw [hd]
 dsimp only
 split
 ·rename_i y q
  rw [q] at e
  exact congrArg some e
 ·rename_i q
  rw [q] at e
  have a:es.toList.any (·.refKey)=false:=by
   rw [List.any_eq_false]
   intro y hy
   obtain ⟨z,t,hkey⟩:=hk y (Array.mem_toList_iff.mp hy)
   simp [DictEntry.refKey,hkey]
  have a':¬ es.toList.any (·.refKey)=true:=by rw [a]; exact Bool.false_ne_true
  rw [if_neg a']
  exact congrArg some e
theorem ObjM.look {h:Heap} {x dx C:Addr} {mA:Str->Option Value} (I:ObjM h x dx C mA):∃ od,PySem.W.InstAt h x (PySem.W.instObj C dx) C (some od)/\∀ name,PySem.W.lookIn name od=some (mA name) :=
 let ⟨od,ho,hl⟩:=lookIn_ns I.ns
 ⟨od,⟨I.obj,rfl,rfl,ho⟩,hl⟩
section
variable {prog:Program} {w:World} {A:Around} {E:Value->Shared->Prop} {s:Shared} {K:W.Frag} {x dx C f:Addr} {mA:Str->Option Value} {name:Str} {v:Value}
theorem get_map {expr:Bool} {Q:Value->Shared->Prop} (X:K.In s.heap) (I:ObjM s.heap x dx C mA) (hg:PySem.W.plainGet K C name=true) (hh:PySem.W.hasDictIn K C=true)
  (ha:PySem.W.findIn K (.ref C) name=some none) (hv:mA name=some v) (hv':PySem.W.handedIn v=true) (h:Q v { s with toks:=s.toks + 1 }) :
  wpAny (model prog w) A (getAttr (.ref x) name expr) Q E s:=by
 obtain ⟨od,J,hl⟩:=I.look
 exact PySem.W.get_value X J (PySem.W.plainGet_of hg).1 (PySem.W.findObj_own hh ha rfl (by rw [hl,hv])) hv' h
theorem get_meth {pl:Sem Bool} {Q:Value×List Value->Shared->Prop} (X:K.In s.heap) (I:ObjM s.heap x dx C mA) (hg:PySem.W.plainGet K C name=true)
  (hf:PySem.W.findIn K (.ref C) name=some (some (.ref f))) (ht:PySem.W.isFn K (.ref f)=true) (hv:mA name=none) (h:Q (.ref f,[.ref x]) s) :
  wpAny (model prog w) A (getMethod (.ref x) name pl) Q E s:=by
 obtain ⟨od,J,hl⟩:=I.look
 exact PySem.W.method_fn X J (PySem.W.plainGet_of hg).1 (PySem.W.plainGet_of hg).2 hf (beq_iff_eq.mp ht) (by show (PySem.W.lookIn name od).map (·.isSome)=some false; rw [hl,hv]; rfl) h
theorem set_map {ns:List Str} {Q:Unit->Shared->Prop} (X:K.In s.heap) (I:ObjM s.heap x dx C mA)
  (hs:PySem.W.findIn K (.ref C) "__setattr__" = some (some (.builtin "object.__setattr__"))) (hp:PySem.W.plainOver K C=true) (ht:PySem.W.takerIn K C name=some none) (hh:PySem.W.hasDictIn K C=true)
  (hw:PySem.Within mA ns) (hsz:ns.length<=sizeLine)
  (h:∀ h',ObjM h' x dx C (fun y=>if y=name then some v else mA y)->Heap.SameBut dx s.heap h'->Q () { s with heap:=h',toks:=s.toks + 2 }) :
  wpAny (model prog w) A (setAttr (.ref x) name v) Q E s:=by
 obtain ⟨od,J,hl⟩:=I.look
 refine PySem.W.set_plain X J hs (PySem.W.osa_open (s:={ s with toks:=s.toks + 1 }) (r:=none) X J hp ht fun b => ?_)
 obtain ⟨cd,hc,hd'⟩:=PySem.W.any_some hh
 have hx:s.heap.get? x=some ⟨.ref C,some dx,.plain,#[]⟩:=I.obj
 refine wpAny_bind (wpAny_pure (wpAny_bind (wpAny_bind (wpAny_loadPart hx (wpAny_bind (PySem.W.Looks.here (s:={ s with toks:=s.toks + 1 }) (PySem.W.looks_clsIn X hc) ?_))))))
 rw [hd']
 refine wpAny_pure (a:=some dx) (wpAny_bind (wpAny_pure (wpAny_bind ?_)))
 refine wpAny_nsSet1 (s:={ s with toks:=s.toks + 1 }) I.ns fun h' hn2 hs2 => ?_
 obtain ⟨oD,esD,epD,hoD,hdD,hcD⟩:=hn2.count (PySem.Within.cons name v hw)
 refine wpAny_bind (wpAny_lookBehind hoD (by rw [hdD]; exact pastItsLine_dict (Nat.le_trans hcD (by rw [List.length_cons]; omega))) ?_)
 exact wpAny_pure (h _ ⟨(hs2.2 _ (Ne.symm I.ne)).trans I.obj,hn2,I.ne⟩ hs2)
theorem make_map {R:Result->Shared->Prop} {vs:List Value} {kw:List (Str×Value)} (X:K.In s.heap) (hm:PySem.W.makesIn K C=true)
  (hi:PySem.W.findIn K (.ref C) "__init__" = some (some (.ref f))) (hf:PySem.W.typeIn K (.ref f)=some (.type "function"))
  (h:codeAny (model prog w) (A.under (.builtin "type.__call__" ⟨.ref C :: vs,kw⟩)) (.call (.ref f) ⟨.ref (s.heap.objs.size + 1) :: vs,kw⟩) (PySem.W.InitBack (s.heap.objs.size + 1) R)
   { s with heap:=(s.heap.push PySem.W.emptyDict).push (PySem.W.instObj C s.heap.objs.size) }) :
  codeAny (model prog w) A (.call (.ref C) ⟨vs,kw⟩) R s:=by
 obtain ⟨hh,g,d,t,os⟩:=s
 exact PySem.W.make_core (PySem.W.makes_of X hm) (PySem.W.looks_findIn X hi) (fun self=>PySem.W.bind_fn X self hf) (.inl rfl) h
end
noncomputable def putF (f:Str) (v:V):List (Str×V)->List (Str×V)
 | [] => [(f,v)]
 | (g,x) :: r=>if g=f then (g,v) :: r else (g,x) :: putF f v r
theorem zcO (f g:Str) (v:V):∀ fs:List (Str×V),(putF f v fs).lookup g=if g=f then some v else fs.lookup g
 | []=>by
  show List.lookup g [(f,v)]=_
  by_cases h:g=f
  ·have hb:(g == f)=true:=beq_iff_eq.mpr h
   simp only [List.lookup,hb,if_pos h]
  ·have hb:(g == f)=false:=beq_eq_false_iff_ne.mpr h
   simp only [List.lookup,hb,if_neg h]
 | (k,x) :: r=>by
  have ih:=zcO f g v r
  rw [show putF f v ((k,x) :: r)=(if k=f then (k,v) :: r else (k,x) :: putF f v r) from rfl]
  by_cases hk:k=f
  ·rw [if_pos hk]
   by_cases h:g=k
   ·have hb:(g == k)=true:=beq_iff_eq.mpr h
    simp only [List.lookup,hb,if_pos (h.trans hk)]
   ·have hb:(g == k)=false:=beq_eq_false_iff_ne.mpr h
    simp only [List.lookup,hb,if_neg (fun e:g=f=>h (e.trans hk.symm))]
  ·rw [if_neg hk]
   by_cases h:g=k
   ·have hb:(g == k)=true:=beq_iff_eq.mpr h
    simp only [List.lookup,hb,if_neg (fun e:g=f=>hk (h.symm.trans e))]
   ·have hb:(g == k)=false:=beq_eq_false_iff_ne.mpr h
    simp only [List.lookup,hb]
    exact ih
theorem zcR (f:Str) (v:V):∀ fs:List (Str×V),f∈(putF f v fs).map (·.1)/\∀ g,g∈fs.map (·.1)->g∈(putF f v fs).map (·.1)
 | []=>⟨by simp [putF],fun g h=>by simp at h⟩
 | (k,x) :: r=>by
  obtain ⟨i1,i2⟩:=zcR f v r
  rw [show putF f v ((k,x) :: r)=(if k=f then (k,v) :: r else (k,x) :: putF f v r) from rfl]
  by_cases hk:k=f
  ·rw [if_pos hk]
   subst hk
   exact ⟨by simp,fun g h=>by simpa using h⟩
  ·rw [if_neg hk]
   refine ⟨?_,fun g h => ?_⟩
   ·rw [List.map_cons]
    exact List.mem_cons_of_mem _ i1
   ·rw [List.map_cons] at h ⊢
    rcases List.mem_cons.mp h with e | e
    ·exact List.mem_cons.mpr (.inl e)
    ·exact List.mem_cons_of_mem _ (i2 g e)
theorem zcQ (f:Str) (v:V):∀ fs:List (Str×V),(putF f v fs).length<=fs.length + 1
 | []=>by simp [putF]
 | (k,x) :: r=>by
  have ih:=zcQ f v r
  rw [show putF f v ((k,x) :: r)=(if k=f then (k,v) :: r else (k,x) :: putF f v r) from rfl]
  by_cases hk:k=f
  ·rw [if_pos hk,List.length_cons,List.length_cons]; omega
  ·rw [if_neg hk,List.length_cons,List.length_cons]; omega
theorem RelO.some_of {v:V} {o:Option Value} (r:RelO (some v) o):∃ u,o=some u/\RelV v u:=by
 cases o with
 | none=>exact (show False from r).elim
 | some u=>exact ⟨u,rfl,r⟩
theorem RelO.none_of {o:Option Value} (r:RelO none o):o=none:=by
 cases o with
 | none=>rfl
 | some u=>exact (show False from r).elim
theorem handed_of {v:V} {u:Value} (r:RelV v u):PySem.W.handedIn u=true:=by
 cases v with
 | non=>cases (show u=Value.none from r); rfl
 | bl b=>cases (show u=Value.bool b from r); rfl
 | int i=>obtain ⟨t,e⟩:=(show ∃ t,u=Value.int i t from r); cases e; rfl
 | str x=>obtain ⟨t,e⟩:=(show ∃ t,u=Value.str x t from r); cases e; rfl
 | byt b=>obtain ⟨t,e⟩:=(show ∃ t,u=Value.bytes b t from r); cases e; rfl
 | flt b=>obtain ⟨t,e⟩:=(show ∃ t,u=Value.float b t from r); cases e; rfl
 | ref a=>cases (show u=Value.ref a from r); rfl
 | ty n=>cases (show u=Value.type n from r); rfl
section
variable {P:Program} {w:World} {H H':Hp} {h h':Heap} {a C dx:Addr} {fs fs':List (Str×V)}
theorem zdI (hok:HOk P w H h) (e:H a=some (.ins C dx fs)):∃ mA,ObjM h a dx C mA/\(∀ f,RelO (fs.lookup f) (mA f))/\PySem.Within mA (fs.map (·.1))/\fs.length<=1000/\H dx=some (.own a):=by
 obtain ⟨d,z,ne,ob,mA,n,r,q⟩:=(show ObjOk P w H h a (.ins C dx fs) from hok a _ e)
 exact ⟨mA,⟨ob,n,ne⟩,r,q,z,d⟩
end
structure Cls (K:W.Frag) (C:Addr):Prop where
 pg:PySem.W.plainGet K C Str.empty=true
 hd:PySem.W.hasDictIn K C=true
 po:PySem.W.plainOver K C=true
 sa:PySem.W.findIn K (.ref C) "__setattr__" = some (some (.builtin "object.__setattr__"))
theorem Cls.get {K:W.Frag} {C:Addr} (c:Cls K C) (f:Str):PySem.W.plainGet K C f=true:=c.pg
noncomputable def NoAttr (K:W.Frag) (C:Addr) (f:Str):Prop:=PySem.W.findIn K (.ref C) f=some none
theorem NoAttr.taker {K:W.Frag} {C:Addr} {f:Str} (n:NoAttr K C f):PySem.W.takerIn K C f=some none:=by
 unfold PySem.W.takerIn
 rw [show PySem.W.findIn K (.ref C) f=some none from n]
 rfl
structure Meth (K:W.Frag) (C:Addr) (m:Str) (f:Addr):Prop where
 at_:PySem.W.findIn K (.ref C) m=some (some (.ref f))
 fn:PySem.W.isFn K (.ref f)=true
 kp:PySem.W.keepIn K (.ref f)=true
section
variable {X:Cx} {pins:List (Addr×Obj)} {σ : St} {H:Hp} {s:Shared} {a C dx:Addr} {fs:List (Str×V)} {f:Str} {v:V} {A:Around} {E:Value->Shared->Prop}
theorem getattr_ok {b:Bool} {Q:Value->Shared->Prop} (I:Inv X pins σ H s) (e:H a=some (.ins C dx fs)) (c:Cls X.K C) (n:NoAttr X.K C f) (l:fs.lookup f=some v)
  (h:∀ u s',Inv X pins σ H s'->RelV v u->Q u s'):wpAny (model X.prog X.w) A (getAttr (.ref a) f b) Q E s:=by
 obtain ⟨mA,O,r,_,_,_⟩:=zdI I.hok e
 obtain ⟨u,hu,ru⟩:=RelO.some_of (v:=v) (o:=mA f) (by rw [<- l]; exact r f)
 exact get_map I.kIn O (c.get f) c.hd n hu (handed_of ru) (h u _ (I.tok _) ru)
theorem zdk {m:Str} {g:Addr} {pl:Sem Bool} {Q:Value×List Value->Shared->Prop} (I:Inv X pins σ H s) (e:H a=some (.ins C dx fs)) (c:Cls X.K C) (k:Meth X.K C m g) (l:fs.lookup m=none)
  (h:Q (.ref g,[.ref a]) s):wpAny (model X.prog X.w) A (getMethod (.ref a) m pl) Q E s:=by
 obtain ⟨mA,O,r,_,_,_⟩:=zdI I.hok e
 have hn:mA m=none:=RelO.none_of (by rw [<- l]; exact r m)
 exact get_meth I.kIn O (c.get m) k.at_ k.fn hn h
theorem setattr_ok {y:V} {u:Value} {Q:Unit->Shared->Prop} (I:Inv X pins σ H s) (e:H a=some (.ins C dx fs)) (c:Cls X.K C) (n:NoAttr X.K C f) (hl:fs.length < 1000) (ry:RelV y u)
  (h:∀ s',Inv X pins σ (upd H a (.ins C dx (putF f y fs))) s'->Q () s'):wpAny (model X.prog X.w) A (setAttr (.ref a) f u) Q E s:=by
 obtain ⟨mA,O,r,wi,_,ho⟩:=zdI I.hok e
 have hz:(fs.map (·.1)).length<=sizeLine:=by rw [List.length_map,sizeLine_eq]; omega
 refine set_map I.kIn O c.sa c.po n.taker c.hd wi hz fun h' O' sb=>h _ ?_
 have hd:∃ o,h'.get? dx=some o:=let ⟨o,_,_,e',_⟩:=O'.ns; ⟨o,e'⟩
 refine I.write (x:=a) (e:=dx) (by rw [e]; exact True.intro) (.inr ho) (fun b q hb z=>(sb.2 b hb).trans z) hd ?_
 refine ⟨by rw [zag O.ne]; exact ho,?_,O.ne,O'.obj,_,O'.ns,fun g => ?_,fun g hg => ?_⟩
 ·have:=zcQ f y fs; omega
 ·show RelO ((putF f y fs).lookup g) (if g=f then some u else mA g)
  rw [zcO]
  by_cases q:g=f
  ·rw [if_pos q,if_pos q]; exact ry
  ·rw [if_neg q,if_neg q]; exact r g
 ·by_cases q:g=f
  ·rw [q]; exact (zcR f y fs).1
  ·refine (zcR f y fs).2 g (wi g fun z=>hg ?_)
   show (if g=f then some u else mA g)=none
   rw [if_neg q]; exact z
theorem Inv.made (I:Inv X pins σ H s):Inv X pins σ (upd (upd H s.heap.objs.size (.own (s.heap.objs.size + 1))) (s.heap.objs.size + 1) (.ins C s.heap.objs.size []))
  { s with heap:=(s.heap.push PySem.W.emptyDict).push (PySem.W.instObj C s.heap.objs.size) }:=by
 have e1:(s.heap.push PySem.W.emptyDict).get? s.heap.objs.size=some PySem.W.emptyDict:=Heap.get?_push_size s.heap rfl
 have e2:((s.heap.push PySem.W.emptyDict).push (PySem.W.instObj C s.heap.objs.size)).get? (s.heap.objs.size + 1)=some (PySem.W.instObj C s.heap.objs.size):=by
  have:=Heap.get?_push_size (s.heap.push PySem.W.emptyDict) (o:=PySem.W.instObj C s.heap.objs.size) rfl
  rwa [Heap.size_push] at this
 have e3:(s.heap.push PySem.W.emptyDict).Ns s.heap.objs.size (fun _=>none):=⟨PySem.W.emptyDict,#[],_,e1,rfl,(fun e he=>absurd he (by simp)),fun _=>rfl⟩
 have I1:=I.laid (a:=s.heap.objs.size) (o := .own (s.heap.objs.size + 1)) (h':=s.heap.push PySem.W.emptyDict) (t':=s.toks) (fun b u q=>Heap.get?_push_of_some _ q) (Nat.le_refl _) ⟨_,e1⟩
 refine I1.laid (a:=s.heap.objs.size + 1) (o := .ins C s.heap.objs.size []) (t':=s.toks) (fun b u q=>Heap.get?_push_of_some _ q) (Nat.le_of_eq (Heap.size_push _ _)) ?_
 have ne:s.heap.objs.size≠s.heap.objs.size + 1:=Nat.ne_of_lt (Nat.lt_succ_self _)
 refine ⟨by rw [zag ne,upd_same],Nat.zero_le _,ne,e2,fun _=>none,(Heap.Ns1.of_empty e3).at fun o q=>Heap.get?_push_of_some _ q,fun _=>True.intro,fun y hy=>absurd rfl hy⟩
theorem attr_of {prog:Program} {w:World} {env:Env} {e:Expr} {f:Str} {pos:Pos} {s:Shared} {Q:Value->Shared->Prop} (hb:attributeBase e f env (eval e env)=eval e env)
  (h:wpAny (model prog w) A (eval e env) (fun o s₁ => wpAny (model prog w) A (getAttr o f true) Q E s₁) E s):wpAny (model prog w) A (eval (.Attribute e f pos) env) Q E s :=
 Attribute_any_ h (by rw [arm_eval_Attribute,hb])
end
noncomputable def tFld (K:W.Frag) (ta:TE) (f:Str):TE:=fun σ H Q=>ta σ H fun x H1=>∃ a C dx fs v,x = .ref a/\H1 a=some (.ins C dx fs)/\Cls K C/\NoAttr K C f/\fs.lookup f=some v/\Q v H1
noncomputable def sFld (K:W.Frag) (ta tv:TE) (f:Str):TS:=fun D σ H=>tv σ H fun y H1=>ta σ H1 fun x H2=>∃ a C dx fs,x = .ref a/\H2 a=some (.ins C dx fs)/\Cls K C/\NoAttr K C f/\fs.length < 1000 /\
 D.nx σ (upd H2 a (.ins C dx (putF f y fs)))
section
variable {X:Cx} {o e value:Expr} {f:Str} {pos pos' tpos:Pos} {ta tv:TE}
theorem zbL (he:PE X e ta) (hb:attributeBase e f X.env (eval e X.env)=eval e X.env):PE X (.Attribute e f pos) (tFld X.K ta f):=by
 intro pins s σ H Q I h
 refine attr_of hb (thnE (he pins s σ H _ I h) fun u s1 x H1 I1 rx ⟨a,C,dx,fs,v,ex,ea,c,n,l,q⟩ => ?_)
 subst ex
 obtain rfl:u=Value.ref a:=rx
 exact getattr_ok I1 ea c n l fun u' s2 I2 ru=>⟨v,H1,I2,ru,q⟩
theorem zfP (ha:PE X o ta) (hv:PE X value tv) (hs:swapsWith value (some (.Attribute o f pos')) pos.line X.env=pure false):PS X (.Assign [.Attribute o f pos'] value pos) (sFld X.K ta tv f):=by
 intro pins s σ H D I h
 refine plainObj_wpAny_Assign_Attribute (thnE (hv pins s σ H _ I h) fun u s1 y H1 I1 ry q=>thnE (ha pins s1 σ H1 _ I1 q) fun ov s2 x H2 I2 rx ⟨a,C,dx,fs,ex,ea,c,n,l,q2⟩ => ?_) hs
 subst ex
 obtain rfl:ov=Value.ref a:=rx
 exact setattr_ok I2 ea c n l ry fun s3 I3=>⟨σ,_,I3,q2⟩
end
section
variable {X:Cx} {pins:List (Addr×Obj)} {σ : St} {H:Hp} {s:Shared} {A:Around} {E:Value->Shared->Prop} {Q:Value->Shared->Prop} {c:Value} {b:Bool}
inductive TyOf (K:W.Frag) (H:Hp):V->Value->Prop where
 | non:TyOf K H .non (.type "NoneType")
 | bl (x:Bool):TyOf K H (.bl x) (.type "bool")
 | int (i:Int):TyOf K H (.int i) (.type "int")
 | str (x:Str):TyOf K H (.str x) (.type "str")
 | flt (x:UInt64):TyOf K H (.flt x) (.type "float")
 | lst {a:Addr} {xs:List V} (e:H a=some (.lst xs)):TyOf K H (.ref a) (.type "list")
 | frz {a:Addr} {o:Obj} {xs:List V} (e:H a=some (.frz o (.lst xs))):TyOf K H (.ref a) (.type "list")
 | tup {a:Addr} {xs:List V} (e:H a=some (.tup xs)):TyOf K H (.ref a) (.type "tuple")
 | dK {a:Addr} {kvs:List (Key×V)} (e:H a=some (.dK kvs)):TyOf K H (.ref a) (.type "dict")
 | dT {a:Addr} {kvs:List (List Key×V)} (e:H a=some (.dT kvs)):TyOf K H (.ref a) (.type "dict")
 | ins {a C dx:Addr} {fs:List (Str×V)} (e:H a=some (.ins C dx fs)) (cl:Cls K C) (ha:PySem.W.findIn K (.ref C) "__class__" = some (some (.builtin "object.__class__")))
   (hn:PySem.W.specialIn K (.builtin "object.__class__") "__get__" = some (some (.builtin "getset_descriptor.__get__"))) (htk:PySem.W.takesIn K (.builtin "object.__class__")=some true)
   (hm:PySem.W.mroIn K C (.type "object")=some true):TyOf K H (.ref a) (.ref C)
theorem isinst_ok {x:V} {u t:Value} (I:Inv X pins σ H s) (rx:RelV x u) (ty:TyOf X.K H x t) (e:PySem.W.kitOne X.K t c=some b) (h:∀ tk,Q (.bool b) { s with toks:=tk }) :
  wpAny (model X.prog X.w) A (call (.builtin "isinstance") [u,c]) Q E s:=by
 cases ty with
 | non=>cases (show u=Value.none from rx); exact PySem.W.kia_one PySem.W.kitx_none I.kIn True.intro e (fun z=>nomatch z) h
 | bl y=>cases (show u=Value.bool y from rx); exact PySem.W.kia_one PySem.W.kitx_bool I.kIn True.intro e (fun z=>nomatch z) h
 | int i=>obtain ⟨t,q⟩:=(show ∃ t,u=Value.int i t from rx); cases q; exact PySem.W.kia_one PySem.W.kitx_int I.kIn True.intro e (fun z=>nomatch z) h
 | str y=>obtain ⟨t,q⟩:=(show ∃ t,u=Value.str y t from rx); cases q; exact PySem.W.kia_one PySem.W.kitx_str I.kIn True.intro e (fun z=>nomatch z) h
 | flt y=>obtain ⟨t,q⟩:=(show ∃ t,u=Value.float y t from rx); cases q; exact PySem.W.kia_one PySem.W.kitx_float I.kIn True.intro e (fun z=>nomatch z) h
 | @lst a xs ea =>
  cases (show u=Value.ref a from rx)
  obtain ⟨_,_,n,_,h1⟩:=(show ObjOk X.prog X.w H s.heap a (.lst xs) from I.hok a _ ea)
  exact PySem.W.kia_one PySem.W.kitx_list I.kIn ⟨_,h1,rfl⟩ e (fun z=>nomatch z) h
 | @frz a ob xs ea =>
  cases (show u=Value.ref a from rx)
  obtain ⟨_,_,_,n,_,h1⟩:=(show ObjOk X.prog X.w H s.heap a (.frz ob (.lst xs)) from I.hok a _ ea)
  exact PySem.W.kia_one PySem.W.kitx_list I.kIn ⟨_,h1,rfl⟩ e (fun z=>nomatch z) h
 | @tup a xs ea =>
  cases (show u=Value.ref a from rx)
  obtain ⟨_,_,_,p⟩:=(show ObjOk X.prog X.w H s.heap a (.tup xs) from I.hok a _ ea)
  obtain ⟨o,h1,h2,_⟩:=p
  exact PySem.W.kia_one PySem.W.kitx_tuple I.kIn ⟨o,h1,h2⟩ e (fun z=>nomatch z) h
 | @dK a kvs ea =>
  cases (show u=Value.ref a from rx)
  obtain ⟨_,_,vs,_,p⟩:=(show ObjOk X.prog X.w H s.heap a (.dK kvs) from I.hok a _ ea)
  obtain ⟨o,es,ep,h1,h2,_⟩:=p
  exact PySem.W.kia_one PySem.W.kitx_dict I.kIn ⟨o,h1,h2.1⟩ e (fun z=>nomatch z) h
 | @dT a kvs ea =>
  cases (show u=Value.ref a from rx)
  obtain ⟨_,_,xs,_,o,es,ep,h1,h2,_⟩:=(show ObjOk X.prog X.w H s.heap a (.dT kvs) from I.hok a _ ea)
  exact PySem.W.kia_one PySem.W.kitx_dict I.kIn ⟨o,h1,h2.1⟩ e (fun z=>nomatch z) h
 | @ins a C dx fs ea cl ha hn htk hm =>
  cases (show u=Value.ref a from rx)
  obtain ⟨mA,O,_⟩:=zdI I.hok ea
  obtain ⟨od,J,_⟩:=O.look
  exact PySem.W.kia_one (PySem.W.kitx_own (cl.get _) cl.hd ha hn htk hm) I.kIn J e (fun z=>nomatch z) h
end
structure Room (k:Nat) (A:Around):Prop where
 hd:A.handled=none
 dp:A.depth + 3 * k + 5 < recursionLimit
 un:A.units + 16 * k + 200 < cLine
theorem Room.mono {j k:Nat} {A:Around} (r:Room k A) (h:j<=k):Room j A:=⟨r.hd,by have:=r.dp; omega,by have:=r.un; omega⟩
theorem Room.deeper {k:Nat} {A:Around} (r:Room (k + 1) A) (env:Env):Room k (A.deeper env) :=
 ⟨r.hd,by have:=r.dp; show A.depth + 1 + 3 * k + 5 < _; omega,by have:=r.un; show A.units + 3 + 16 * k + 200 < _; omega⟩
theorem make_depth {A:Around} {C:Addr} {us:List Value} {kw:List (Str×Value)}:(A.under (.builtin "type.__call__" ⟨.ref C :: us,kw⟩)).depth=A.depth + 1:=by
 first | rfl | simp [Around.under,Code.weight,Code.isCreation,Code.isGuard,Code.isCaller,Code.frames,Code.isFrame,guardIds]
theorem make_units {A:Around} {C:Addr} {us:List Value} {kw:List (Str×Value)}:(A.under (.builtin "type.__call__" ⟨.ref C :: us,kw⟩)).units=A.units + 1:=by
 first | rfl | simp [Around.under,Code.cUnits,Code.frames,Code.isFrame]
theorem Room.make {k:Nat} {A:Around} (r:Room (k + 1) A) (C:Addr) (us:List Value) (kw:List (Str×Value)):Room k (A.under (.builtin "type.__call__" ⟨.ref C :: us,kw⟩)) :=
 ⟨r.hd,by have:=r.dp; rw [make_depth]; omega,by have:=r.un; rw [make_units]; omega⟩
theorem Room.depth {k:Nat} {A:Around} (r:Room k A):A.depth < recursionLimit:=by have:=r.dp; omega
theorem Room.units {k:Nat} {A:Around} (r:Room k A):A.units + 64 < cLine:=by have:=r.un; omega
noncomputable def tNil:TA:=fun _ H Q=>Q [] H
noncomputable def tCons (ta:TE) (tr:TA):TA:=fun σ H Q=>ta σ H fun x H1=>tr σ H1 fun xs H2=>Q (x :: xs) H2
section
variable {X:Cx} {e:Expr} {es:List Expr} {te:TE} {t:TA} {pos:Pos}
theorem zab:PA X [] tNil:=fun _ _ _ _ H Q I h=>Calls.spliced_nil ⟨[],H,I,.nil,h⟩
theorem zaa (ha:PE X e te) (hr:PA X es t) (hs:starEach (e :: es) X.env=(false,eval e X.env) :: starEach es X.env:=by rfl):PA X (e :: es) (tCons te t):=by
 intro pos pins s σ H Q I h
 rw [hs]
 show wpAny _ _ (spliced ((false,eval e X.env) :: backTo pos (starEach es X.env))) _ _ s
 refine Calls.spliced_cons (thnE (ha pins s σ H _ I h) fun u s1 x H1 I1 r1 q1 => ?_)
 exact thnE (hr pos pins s1 σ H1 _ I1 q1) fun us s2 xs H2 I2 r2 q2=>⟨x :: xs,H2,I2,.cons r1 r2,q2⟩
noncomputable def tTup (t:TA):TE:=fun σ H Q=>t σ H fun xs H1=>xs.length<=sizeLine/\∀ p,H1 p=none->Q (.ref p) (upd H1 p (.tup xs))
noncomputable def tLst (t:TA):TE:=fun σ H Q=>t σ H fun xs H1=>xs.length<=sizeLine/\∀ p,H1 p=none->Q (.ref p) (upd H1 p (.lst xs))
theorem zaY {x1} (h:PA X es t):PE X (.Tuple es x1 pos) (tTup t):=by
 intro pins s σ H Q I hq
 refine wpAny_Tuple_spliced (thnE (h pos pins s σ H _ I hq) fun us s1 xs H1 I1 r ⟨z,q⟩=>⟨by rw [<- r.length]; exact z,?_⟩)
 have hf:H1 s1.heap.objs.size=none:=I1.hok.fresh (Nat.le_refl _)
 refine ⟨.ref s1.heap.objs.size,upd H1 s1.heap.objs.size (.tup xs),I1.laid (t':=s1.toks) (fun b u e=>Heap.get?_push_of_some _ e) (Nat.le_refl _) ?_,rfl,q _ hf⟩
 exact ⟨z,us,r,⟨_,Heap.get?_push_size _ rfl,rfl,_,rfl⟩⟩
theorem zaN (h:PA X es t):PE X (.List es pos) (tLst t):=by
 intro pins s σ H Q I hq
 refine wpAny_List_spliced (thnE (h pos pins s σ H _ I hq) fun us s1 xs H1 I1 r ⟨z,q⟩=>⟨by rw [<- r.length]; exact z,?_⟩)
 have hf:H1 s1.heap.objs.size=none:=I1.hok.fresh (Nat.le_refl _)
 refine ⟨.ref s1.heap.objs.size,upd H1 s1.heap.objs.size (.lst xs),I1.laid (t':=s1.toks) (fun b u e=>Heap.get?_push_of_some _ e) (Nat.le_refl _) ?_,rfl,q _ hf⟩
 exact ⟨z,us,0,r,Heap.get?_push_size _ rfl⟩
end
noncomputable abbrev Sp:=List V->Hp->VK->XK->Prop
noncomputable abbrev CXT:=List Env->Hp->Shared->XK->Value->Shared->Prop
structure Env0 (P:Program) (w:World) (K:W.Frag) (mg:Str->Option Value) (base:Heap) (A:Around) (outer:List Env) (s:Shared) (H:Hp):Prop where
 frames:A.frames=some outer
 mod:Mod K mg base
 bs:∀ b o,base.get? b=some o->s.heap.get? b=some o/\H b=none
 bsz:base.objs.size<=s.heap.objs.size
 funs:s.heap.FunFrames base outer
 frf:∀ b∈frs outer,H b=none
 hok:HOk P w H s.heap
 bare:AllBare s.gens
noncomputable def CE (outer:List Env) (P:Program) (w:World) (H:Hp) (s:Shared) (Q:VK) (u:Value) (s':Shared):Prop :=
 ∃ v H',s'.os=s.os/\AllBare s'.gens/\Un (frs outer) [] H H' s.heap s'.heap/\HOk P w H' s'.heap/\RelV v u/\Q v H'
noncomputable def CR (CX:CXT) (outer:List Env) (P:Program) (w:World) (H:Hp) (s:Shared) (Q:VK) (E:XK) (r:Result) (s':Shared):Prop :=
 match r with
 | .ok (.ret u)=>CE outer P w H s Q u s'
 | .ok _=>False
 | .error e=>CX outer H s E e s'
structure FnOk (P:Program) (w:World) (K:W.Frag) (mg:Str->Option Value) (base:Heap) (CX:CXT) (k:Nat) (f:Addr) (fd:FuncData) (ps:List Str) (sp:Sp):Prop where
 len:∀ vs H Q E,sp vs H Q E->vs.length=ps.length
 run:∀ (A:Around) (outer:List Env) (s:Shared) (H:Hp) (args:Args) (us:List Value) (vs:List V) (Q:VK) (E:XK),Room k A->Env0 P w K mg base A outer s H->BindsTo s fd args (ps.zip us)->Vals vs us->sp vs H Q E ->
  codeAny (model P w) A (.call (.ref f) args) (CR CX outer P w H s Q E) s
theorem Env0.make {P:Program} {w:World} {K:W.Frag} {mg:Str->Option Value} {base:Heap} {A:Around} {outer:List Env} {s:Shared} {H:Hp} (e:Env0 P w K mg base A outer s H) (C:Addr) (us:List Value) (kw:List (Str×Value)) :
  Env0 P w K mg base (A.under (.builtin "type.__call__" ⟨.ref C :: us,kw⟩)) outer s H:=⟨by first | exact e.frames | (simpa [Around.under,Code.envs,Code.isFrame,pushEnvs] using e.frames),e.mod,e.bs,e.bsz,e.funs,e.frf,e.hok,e.bare⟩
section
variable {X:Cx} {pins:List (Addr×Obj)} {σ : St} {H:Hp} {s s':Shared}
theorem Inv.env0 (I:Inv X pins σ H s):Env0 X.prog X.w X.K X.mg X.base X.A X.stack s H :=
 ⟨I.ok.frames,I.ok.mod,I.bs,Nat.le_trans I.ok.bsz I.sz,I.stack,I.stkFree,I.hok,I.bare⟩
theorem Inv.after {Q:VK} {u:Value} (I:Inv X pins σ H s) (h:CE X.stack X.prog X.w H s Q u s'):EP X pins σ Q u s':=by
 obtain ⟨v,H',os,bare,un,hok,r,q⟩:=h
 obtain ⟨hh,g,d,t,os'⟩:=s'
 obtain rfl:os'=s.os:=os
 exact ⟨v,H',I.call (h':=hh) (g':=g) (d':=d) (t':=t) (ch := []) un hok bare (fun b z=>absurd z (by simp)),r,q⟩
end
noncomputable def tCall (sp:Sp) (dvs:List V) (E:XK) (t:TA):TE:=fun σ H Q=>t σ H fun vs H1=>sp (vs ++ dvs) H1 Q E
noncomputable def tMeth (C:Addr) (m:Str) (sp:Sp) (dvs:List V) (E:XK) (ta:TE) (t:TA):TE:=fun σ H Q=>ta σ H fun x H1=>∃ a dx fs,x = .ref a/\H1 a=some (.ins C dx fs)/\fs.lookup m=none /\
 t σ H1 fun vs H2=>sp (x :: (vs ++ dvs)) H2 Q E
noncomputable def tMake (C:Addr) (sp:Sp) (dvs:List V) (E:XK) (t:TA):TE:=fun σ H Q=>t σ H fun vs H1=>∀ x dx,H1 x=none->H1 dx=none->dx≠x ->
 sp (.ref x :: (vs ++ dvs)) (upd (upd H1 dx (.own x)) x (.ins C dx [])) (fun v H2=>v = .non/\Q (.ref x) H2) E
noncomputable def Binds (K:W.Frag) (fd:FuncData) (ps:List Str) (ds:List Value):Prop :=
 ∀ (s:Shared) (us:List Value),K.In s.heap->(us ++ ds).length=ps.length->BindsTo s fd ⟨us,[]⟩ (ps.zip (us ++ ds))
theorem Binds.all {K:W.Frag} {fd:FuncData} {ps:List Str} (h:∀ us:List Value,us.length=ps.length->bindArgs fd ⟨us,[]⟩=pure (ps.zip us)):Binds K fd ps []:=fun s us _ hl=>by
 rw [List.append_nil] at hl ⊢
 exact .of_eq (h us hl)
noncomputable def Passes (CX:CXT) (X:Cx) (E:XK):Prop:=∀ (pins:List (Addr×Obj)) (σ : St) (H:Hp) (s:Shared) (e:Value) (s':Shared),Inv X pins σ H s->CX X.stack H s E e s'->X.xe e s'
section
variable {X:Cx} {CX:CXT} {k:Nat} {f C:Addr} {fd:FuncData} {ps:List Str} {sp:Sp} {dvs:List V} {ds:List Value} {E:XK} {x m:Str} {p pos apos:Pos} {e o:Expr} {es:List Expr} {ta:TE} {t:TA}
theorem zfK {pins:List (Addr×Obj)} {σ : St} {H:Hp} {s:Shared} {Q:VK} {us:List Value} {vs:List V} (F:FnOk X.prog X.w X.K X.mg X.base CX k f fd ps sp) (hr:Room k X.A) (hb:Binds X.K fd ps ds) (hd:Vals dvs ds) (hx:Passes CX X E)
  (I:Inv X pins σ H s) (r:Vals vs us) (h:sp (vs ++ dvs) H Q E):wpAny (model X.prog X.w) X.A (call (.ref f) us) (EP X pins σ Q) X.xe s:=by
 have r2:Vals (vs ++ dvs) (us ++ ds):=r.append hd
 have hl:(us ++ ds).length=ps.length:=by rw [<- r2.length]; exact F.len _ _ _ _ h
 refine wpAny_call (codeAny_mono (F.run X.A X.stack s H ⟨us,[]⟩ (us ++ ds) (vs ++ dvs) Q E hr I.env0 (hb s us I.kIn hl) r2 h) fun r s' hq => ?_)
 cases r with
 | error e=>exact hx pins σ H s e s' I hq
 | ok fl =>
  cases fl with
  | ret u=>exact I.after hq
  | next=>exact False.elim hq
  | brk=>exact False.elim hq
  | cont=>exact False.elim hq
theorem zfU (F:FnOk X.prog X.w X.K X.mg X.base CX k f fd ps sp) (hr:Room k X.A) (hg:Gl X x) (hm:X.mg x=some (.ref f)) (hk:PySem.W.keepIn X.K (.ref f)=true) (hb:Binds X.K fd ps ds) (hd:Vals dvs ds) (hx:Passes CX X E)
  (ha:PA X (e :: es) t) (hdb:(x == ("__debug__" : Str))=false:=by decide) (he:starEach (e :: es) X.env=(false,eval e X.env) :: starEach es X.env:=by rfl) (hpl:(backTo pos (starEach es X.env)).any (·.1)=false:=by rfl) :
  PE X (.Call (.Name x p) (e :: es) [] pos) (tCall sp dvs E t):=by
 intro pins s σ H Q I h
 refine wpAny_Call_Name_kw (zcn I hg hm ?_ hdb)
 refine PySem.W.callWith_K (h₀ := X.base) I.ok.mod.kin hk (thnE (ha pos pins s σ H _ I h) fun us s1 vs H1 I1 r q=>⟨I1.kIn,?_⟩) he hpl
 exact zfK F hr hb hd hx I1 r q
theorem pe_meth {pl:Sem Bool} (he:PE X o ta) (c:Cls X.K C) (hm:Meth X.K C m f) (F:FnOk X.prog X.w X.K X.mg X.base CX k f fd ps sp) (hr:Room k X.A) (hb:Binds X.K fd ps ds) (hd:Vals dvs ds) (hx:Passes CX X E) (ha:PA X (e :: es) t)
  (hst:starEach (e :: es) X.env=(false,eval e X.env) :: starEach es X.env:=by rfl) (hpl:(backTo pos (starEach es X.env)).any (·.1)=false:=by rfl)
  (ht:eval (.Call (.Attribute o m apos) (e :: es) [] pos) X.env=(do
   let ov <- eval o X.env
   standAt apos.atName
   let (f,first) <- holding [ov] (getMethod ov m pl)
   callWith pos f first (backTo pos (starEach (e :: es) X.env)) (backToKw pos (keywordEach [] X.env))):=by rfl) :
  PE X (.Call (.Attribute o m apos) (e :: es) [] pos) (tMeth C m sp dvs E ta t):=by
 intro pins s σ H Q I h
 refine PySem.W.methodCall_KW (pl:=pl) (thnE (he pins s σ H _ I h) fun u s1 x H1 I1 rx ⟨a,dx,fs,ex,ea,l,q⟩ => ?_) ht
 subst ex
 obtain rfl:u=Value.ref a:=rx
 refine zdk I1 ea c hm l ?_
 refine PySem.W.callWith_K (first := [.ref a]) (h₀ := X.base) I.ok.mod.kin hm.kp (thnE (ha pos pins s1 σ H1 _ I1 q) fun us s2 vs H2 I2 r q2=>⟨I2.kIn,?_⟩) hst hpl
 exact zfK (us := .ref a :: us) (vs := .ref a :: vs) F hr hb hd hx I2 (.cons rfl r) q2
theorem pe_meth0 {pl:Sem Bool} (he:PE X o ta) (c:Cls X.K C) (hm:Meth X.K C m f) (F:FnOk X.prog X.w X.K X.mg X.base CX k f fd ps sp) (hr:Room k X.A) (hb:Binds X.K fd ps ds) (hd:Vals dvs ds) (hx:Passes CX X E)
  (ht:eval (.Call (.Attribute o m apos) [] [] pos) X.env=(do
   let ov <- eval o X.env
   standAt apos.atName
   let (f,first) <- holding [ov] (getMethod ov m pl)
   callWith pos f first (backTo pos (starEach [] X.env)) (backToKw pos (keywordEach [] X.env))):=by rfl) :
  PE X (.Call (.Attribute o m apos) [] [] pos) (tMeth C m sp dvs E ta tNil):=by
 intro pins s σ H Q I h
 refine PySem.W.methodCall_KW (pl:=pl) (thnE (he pins s σ H _ I h) fun u s1 x H1 I1 rx ⟨a,dx,fs,ex,ea,l,q⟩ => ?_) ht
 subst ex
 obtain rfl:u=Value.ref a:=rx
 refine zdk I1 ea c hm l ?_
 exact PySem.W.callWith_K0 (first := [.ref a]) I1.kIn hm.kp (zfK (us := [.ref a]) (vs := [.ref a]) F hr hb hd hx I1 (.cons rfl .nil) q)
structure Mk (K:W.Frag) (C f:Addr):Prop where
 makes:PySem.W.makesIn K C=true
 init:PySem.W.findIn K (.ref C) "__init__" = some (some (.ref f))
 fn:PySem.W.isFn K (.ref f)=true
 kp:PySem.W.keepIn K (.ref C)=true
theorem run_make {pins:List (Addr×Obj)} {σ : St} {H:Hp} {s:Shared} {Q:VK} {us:List Value} {vs:List V} (M:Mk X.K C f) (F:FnOk X.prog X.w X.K X.mg X.base CX k f fd ps sp) (hr:Room (k + 1) X.A) (hb:Binds X.K fd ps ds) (hd:Vals dvs ds)
  (hx:Passes CX X E) (I:Inv X pins σ H s) (r:Vals vs us)
  (h:∀ x dx,H x=none->H dx=none->dx≠x->sp (.ref x :: (vs ++ dvs)) (upd (upd H dx (.own x)) x (.ins C dx [])) (fun v H2=>v = .non/\Q (.ref x) H2) E) :
  wpAny (model X.prog X.w) X.A (call (.ref C) us) (EP X pins σ Q) X.xe s:=by
 have hq:=h (s.heap.objs.size + 1) s.heap.objs.size (I.hok.fresh (Nat.le_succ _)) (I.hok.fresh (Nat.le_refl _)) (Nat.ne_of_lt (Nat.lt_succ_self _))
 have I2:=Inv.made (C:=C) I
 have r2:Vals (V.ref (s.heap.objs.size + 1) :: (vs ++ dvs)) (Value.ref (s.heap.objs.size + 1) :: (us ++ ds)) := .cons rfl (r.append hd)
 have hl:(Value.ref (s.heap.objs.size + 1) :: us ++ ds).length=ps.length:=by
  have e:=r2.length
  rw [F.len _ _ _ _ hq] at e
  exact e.symm
 refine wpAny_call (make_map (f:=f) I.kIn M.makes M.init (beq_iff_eq.mp M.fn) (codeAny_mono (F.run _ X.stack _ _ ⟨Value.ref (s.heap.objs.size + 1) :: us,[]⟩ (Value.ref (s.heap.objs.size + 1) :: (us ++ ds)) _ _ E (hr.make C us [])
  (I2.env0.make C us []) (hb _ (Value.ref (s.heap.objs.size + 1) :: us) I2.kIn hl) r2 hq) fun r s' hq' => ?_))
 cases r with
 | error e=>exact hx pins σ _ _ e s' I2 hq'
 | ok fl =>
  cases fl with
  | ret u =>
   obtain ⟨v,H',I3,rv,ev,q3⟩:=I2.after hq'
   subst ev
   exact ⟨rv,⟨V.ref (s.heap.objs.size + 1),H',I3,rfl,q3⟩⟩
  | next=>exact False.elim hq'
  | brk=>exact False.elim hq'
  | cont=>exact False.elim hq'
theorem pe_make0 (M:Mk X.K C f) (F:FnOk X.prog X.w X.K X.mg X.base CX k f fd ps sp) (hr:Room (k + 1) X.A) (hg:Gl X x) (hm:X.mg x=some (.ref C)) (hb:Binds X.K fd ps ds) (hd:Vals dvs ds) (hx:Passes CX X E)
  (hdb:(x == ("__debug__" : Str))=false:=by decide):PE X (.Call (.Name x p) [] [] pos) (tMake C sp dvs E tNil):=by
 intro pins s σ H Q I h
 refine wpAny_Call_Name_kw (zcn I hg hm ?_ hdb)
 exact PySem.W.callWith_K0 I.kIn M.kp (run_make (us := []) M F hr hb hd hx I .nil h)
end
section
variable {X:Cx} {CX:CXT} {k:Nat} {f C:Addr} {fd:FuncData} {ps ks:List Str} {sp:Sp} {E:XK} {x m:Str} {p pos apos kpos:Pos} {e o:Expr} {es:List Expr} {kws:List Keyword} {te ta:TE} {t tk:TA} {nm:Option Str}
variable {g:List Value->List Value->List Value} {gV:List V->List V->List V}
end
structure FnScope (N P:List Str) (sc:Scope):Prop where
 kind:sc.kind = .function
 co:sc.isCoroutine=false
 gen:sc.isGenerator=false
 nd:N.Nodup
 pre:N.take P.length=P
 par:∀ x∈P,sc.names.lookup x=some .local\/sc.names.lookup x=some .cell
 nofree:∀ y∈sc.names,y.2 ≠ .free
theorem zep {kindOf:Str->Option NameKind} {x:Str}:∀ {binds:List (Str×Value)} {m:Str->Option Value},(∀ v,(x,v) ∉ binds)->bindL kindOf binds m x=m x
 | [],_,_=>rfl
 | (n,v) :: r,m,h=>by
  unfold bindL
  rw [zep fun w hw=>h w (List.mem_cons_of_mem _ hw)]
  split
  ·have:x≠n:=by rintro rfl; exact h v List.mem_cons_self
   simp [this]
  ·rfl
theorem zer {kindOf:Str->Option NameKind} {x:Str}:∀ {binds:List (Str×Value)} {m:Str->Option Value},(∀ v,(x,v) ∉ binds)->bindC kindOf binds m x=m x
 | [],_,_=>rfl
 | (n,v) :: r,m,h=>by
  unfold bindC
  rw [zer fun w hw=>h w (List.mem_cons_of_mem _ hw)]
  split
  ·rfl
  ·have:x≠n:=by rintro rfl; exact h v List.mem_cons_self
   simp [this]
theorem zeq {kindOf:Str->Option NameKind} {x:Str} {v:Value}:∀ {P:List Str} {vs:List Value} {i:Nat} {m:Str->Option Value},P.Nodup->P[i]?=some x->vs[i]?=some v->kindOf x=some .local ->
  bindL kindOf (P.zip vs) m x=some v
 | [],_,_,_,_,h,_,_=>by simp at h
 | _ :: _,[],_,_,_,_,h,_=>by simp at h
 | p :: P,w :: vs,0,m,nd,h1,h2,hk=>by
  simp at h1 h2; subst h1; subst h2
  show bindL kindOf ((p,w) :: P.zip vs) m p=_
  unfold bindL
  rw [zep fun v hv=>(List.nodup_cons.mp nd).1 (List.of_mem_zip hv).1,if_pos hk]
  simp
 | p :: P,w :: vs,i + 1,m,nd,h1,h2,hk=>by
  show bindL kindOf ((p,w) :: P.zip vs) m x=_
  unfold bindL
  exact zeq (i:=i) (List.nodup_cons.mp nd).2 (by simpa using h1) (by simpa using h2) hk
theorem zes {kindOf:Str->Option NameKind} {x:Str} {v:Value}:∀ {P:List Str} {vs:List Value} {i:Nat} {m:Str->Option Value},P.Nodup->P[i]?=some x->vs[i]?=some v->kindOf x≠some .local ->
  bindC kindOf (P.zip vs) m x=some v
 | [],_,_,_,_,h,_,_=>by simp at h
 | _ :: _,[],_,_,_,_,h,_=>by simp at h
 | p :: P,w :: vs,0,m,nd,h1,h2,hk=>by
  simp at h1 h2; subst h1; subst h2
  show bindC kindOf ((p,w) :: P.zip vs) m p=_
  unfold bindC
  rw [zer fun v hv=>(List.nodup_cons.mp nd).1 (List.of_mem_zip hv).1,if_neg hk]
  simp
 | p :: P,w :: vs,i + 1,m,nd,h1,h2,hk=>by
  show bindC kindOf ((p,w) :: P.zip vs) m x=_
  unfold bindC
  exact zes (i:=i) (List.nodup_cons.mp nd).2 (by simpa using h1) (by simpa using h2) hk
noncomputable def start (N:List Str) (vs:List V):St:=vs.map some ++ List.replicate (N.length - vs.length) none
noncomputable def cxOf (CX:CXT) (P:Program) (w:World) (K:W.Frag) (mg:Str->Option Value) (base:Heap) (N:List Str) (qual:Str) (scope:Scope) (f:Addr) (cd:Value) (A:Around) (outer:List Env) (s:Shared) (H:Hp) (E:XK):Cx where
 prog:=P
 w:=w
 K:=K
 mg:=mg
 base:=base
 A:=A.deeper (envOfC qual scope s.heap.objs.size f cd)
 N:=N
 s₀ := s
 H₀ := H
 env:=envOfC qual scope s.heap.objs.size f cd
 outer:=outer
 stack:=envOfC qual scope s.heap.objs.size f cd :: outer
 ex := []
 calm:=true
 fn:=fun _=>true
 pn := []
 xe:=fun e s'=>wpAny (model P w) (A.deeper (envOfC qual scope s.heap.objs.size f cd)) (leaving (envOfC qual scope s.heap.objs.size f cd) e) (fun _ s''=>CX outer H s E e s'') (fun e' s''=>CX outer H s E e' s'') s'
theorem zfs {sc:Scope} {n:Nat} {x:Str} (h:sc.names.lookup x=some .cell):∃ c,(cellsFrom n sc.names []).lookup x=some c:=by
 have q:=PySem.W.cellsFrom_some sc.names n [] (.inl h)
 exact Option.isSome_iff_exists.mp q
theorem zee {CX:CXT} {P:Program} {w:World} {K:W.Frag} {mg:Str->Option Value} {base:Heap} {N ps:List Str} {qual:Str} {scope:Scope} {f:Addr} {cd:Value} {A:Around} {outer:List Env} {s s1:Shared} {H:Hp} {E:XK} {us:List Value} {vs:List V}
  (S:FnScope N ps scope) (hd:A.handled=none) (e0:Env0 P w K mg base A outer s H) (hl:vs.length=ps.length) (r:Vals vs us)
  (x:InCallC s s.heap.objs.size (bindL (envOfC qual scope s.heap.objs.size f cd).kindOf (ps.zip us) fun _=>none) (cellsFrom (s.heap.objs.size + 1) scope.names []) (bindC (envOfC qual scope s.heap.objs.size f cd).kindOf (ps.zip us) fun _=>none) s1) :
  Inv (cxOf CX P w K mg base N qual scope f cd A outer s H E) [] (start N vs) H s1:=by
 have hpl:ps.length<=N.length:=by have:=congrArg List.length S.pre; rw [List.length_take] at this; omega
 obtain ⟨h1,tk,rfl,hk⟩:=x.done
 have noA:∀ b:Addr,b ∉ (cxOf CX P w K mg base N qual scope f cd A outer s H E).ex:=fun b z=>absurd (show b∈([]:List Addr) from z) (by simp)
 refine ⟨⟨e0.mod,S.kind,rfl,rfl,Nat.le_refl _,fun y z c h1 h2 => ?_,fun y hy => ?_,fun y c _ h => ?_,fun _=>hd,Around.frames_deeper e0.frames,.inr ⟨rfl,rfl⟩,fun b z=>absurd z (noA b),e0.bs,e0.bsz,fun b _ _=>noA b,fun b z=>absurd z (noA b),e0.funs,e0.frf⟩,
  rfl,e0.bare,Un.kept hk,⟨_,x.toInCall.ns,fun i y v h1 h2 h3 => ?_⟩,fun y c h=>⟨_,x.cell y c h⟩,e0.hok.fresh (Nat.le_refl _),fun y c h => ?_,fun p hp=>absurd (show p∈([]:List (Addr×Obj)) from hp) (by simp),e0.hok.kept hk,?_⟩
 ·exact name_of_addr x.apart (PySem.mem_of_lookup h1) (PySem.mem_of_lookup h2)
 ·have hy:scope.names.lookup y=some .cell\/scope.names.lookup y=some .free:=hy
  rcases hy with hy | hy
  ·exact zfs hy
  ·exact absurd rfl (S.nofree _ (PySem.mem_of_lookup hy))
 ·exact Nat.le_of_lt (x.above y c (PySem.mem_of_lookup h))
 ·have hi:i < vs.length:=by
   unfold start at h2
   by_cases hi:i < vs.length
   ·exact hi
   ·rw [List.getElem?_append_right (by simpa using hi)] at h2
    rw [List.getElem?_replicate] at h2
    split at h2 <;> cases h2
  have ha:vs[i]?=some v:=by
   unfold start at h2
   rw [List.getElem?_append_left (by simpa using hi),List.getElem?_map] at h2
   cases e:vs[i]? with
   | none=>rw [e] at h2; cases h2
   | some a=>rw [e] at h2; cases h2; rfl
  obtain ⟨u,hu,rv⟩:=r.get ha
  have hp:ps[i]?=some y:=by
   rw [<- S.pre,List.getElem?_take_of_lt (by omega)]; exact h1
  have ndP:ps.Nodup:=by rw [<- S.pre]; exact S.nd.sublist (List.take_sublist _ _)
  refine ⟨u,rv,?_⟩
  rcases S.par y (List.mem_of_getElem? hp) with k | k
  ·exact .inl ⟨k,zeq ndP hp hu k⟩
  ·obtain ⟨c,e⟩:=zfs (n:=s.heap.objs.size + 1) k
   refine .inr ⟨.inl k,c,e,?_⟩
   have q:=x.cell y c e
   rw [zes ndP hp hu (by show scope.names.lookup y≠_; rw [k]; decide)] at q
   exact q
 ·exact e0.hok.fresh (Nat.le_of_lt (x.above y c (PySem.mem_of_lookup h)))
 ·unfold start
  show _=N.length
  rw [List.length_append,List.length_map,List.length_replicate]
  omega
theorem zg2 {CX:CXT} {P:Program} {w:World} {K:W.Frag} {mg:Str->Option Value} {base:Heap} {k:Nat} {f:Addr} {name qual:Str} {params:Arguments} {body:List Stmt} {scope:Scope} {dV kV doc pm cdv ct oc:Value} {an od:Option Addr}
  {osl:Array (Option Value)} {N ps:List Str} {sp:Sp} (lk:K.lookup f=some ⟨oc,od,.func (PySem.W.fnOf name qual params body scope dV kV doc pm an cdv ct),osl⟩) (hcd:PySem.W.codeIn K cdv qual=true) (S:FnScope N ps scope)
  (len:∀ vs H Q E,sp vs H Q E->vs.length=ps.length)
  (hbody:∀ (A:Around) (outer:List Env) (s:Shared) (H:Hp) (vs:List V) (Q:VK) (E:XK),Room k (A.deeper (envOfC qual scope s.heap.objs.size f cdv))->sp vs H Q E ->
   ∃ t,PSs (cxOf CX P w K mg base N qual scope f cdv A outer s H E) body t/\t { nx:=fun _ H'=>Q .non H',rt:=Q } (start N vs) H) :
  FnOk P w K mg base CX (k + 1) f (PySem.W.fnOf name qual params body scope dV kV doc pm an cdv ct) ps sp:=by
 refine ⟨len,fun A outer s H args us vs Q E hr e0 hb r hsp => ?_⟩
 have hl:=len _ _ _ _ hsp
 have KX:K.In s.heap:=e0.mod.kin.keeps fun b o e=>(e0.bs b o e).1
 have lim:s.heap.NoLimit:=e0.mod.nolimit.keeps fun b o e=>(e0.bs b o e).1
 have hkind:∀ y∈ps.zip us,scope.names.lookup y.1=some .local\/(scope.names.lookup y.1=some .cell/\((cellsFrom (s.heap.objs.size + 1) scope.names []).lookup y.1).isSome=true):=fun ⟨n,v⟩ hy=>by
  rcases S.par n (List.of_mem_zip hy).1 with q | q
  ·exact .inl q
  ·exact .inr ⟨q,PySem.W.cellsFrom_some _ _ _ (.inl q)⟩
 refine codeAny_call_function hr.depth (KX _ _ lk) rfl S.co S.gen rfl (PySem.W.codeRec_of KX hcd) (hb _ _ _ _ ?_)
 refine wpAny_newFunctionEnv_cells S.kind hkind fun env he s1 x => ?_
 subst he
 refine ⟨lim.keeps x.toInCall.keep,codeAny_func ?_⟩
 obtain ⟨t,ht,hq⟩:=hbody A outer s H vs Q E (hr.deeper _) hsp
 have I:Inv (cxOf CX P w K mg base N qual scope f cdv A outer s H E) [] (start N vs) H s1:=zee S hr.hd e0 hl r x
 refine wpAny_mono (ht [] s1 (start N vs) H _ I hq) (fun fl s' hs => ?_) fun e s' hs=>hs
 have fin:∀ {σ':St} {H':Hp} {v:V} {u:Value},Inv (cxOf CX P w K mg base N qual scope f cdv A outer s H E) [] σ' H' s'->RelV v u->Q v H'->CE outer P w H s Q u s' :=
  fun {σ' H' v u} J rv q=>⟨v,H',J.os,J.bare,J.base,J.hok,rv,q⟩
 cases fl with
 | ret u =>
  obtain ⟨v,σ',H',J,rv,q⟩:=hs
  exact fin J rv q
 | next =>
  obtain ⟨σ',H',J,q⟩:=hs
  exact fin (v:=V.non) (u:=Value.none) J rfl q
 | brk =>
  obtain ⟨_,_,_,q⟩:=hs
  exact False.elim q
 | cont =>
  obtain ⟨_,_,_,q⟩:=hs
  exact False.elim q
section
variable {X:Cx} {x:Str} {p pos:Pos} {e:Expr} {es:List Expr} {t:TA} {id T:String} {r:List V->Hp->VK->Prop}
noncomputable def tCB (r:List V->Hp->VK->Prop) (t:TA):TE:=fun σ H Q=>t σ H fun vs H1=>r vs H1 Q
theorem zah (hc:CallR X (.builtin id) r) (hg:Gl X x) (hm:X.mg x=none) (hv:bootBuiltins x=some (.builtin id)) (ha:PA X (e :: es) t) (hn:x ≠ "__name__" := by decide) (hdb:(x == ("__debug__" : Str))=false:=by decide)
  (he:starEach (e :: es) X.env=(false,eval e X.env) :: starEach es X.env:=by rfl) (hpl:(backTo pos (starEach es X.env)).any (·.1)=false:=by rfl):PE X (.Call (.Name x p) (e :: es) [] pos) (tCB r t):=by
 intro pins s σ H Q I h
 refine wpAny_Call_Name_kw (zea I hg hm hv ?_ hn hdb)
 exact PyProof.Rows.callWith_builtin1 (thnE (ha pos pins s σ H _ I h) fun us s1 vs H1 I1 r1 q1=>hc pins s1 σ H1 vs us Q I1 r1 q1) he hpl
theorem zbw (hc:CallR X (.type T) r) (hg:Gl X x) (hm:X.mg x=none) (hv:bootBuiltins x=some (.type T)) (ha:PA X (e :: es) t) (hn:x ≠ "__name__" := by decide) (hdb:(x == ("__debug__" : Str))=false:=by decide)
  (he:starEach (e :: es) X.env=(false,eval e X.env) :: starEach es X.env:=by rfl) (hpl:(backTo pos (starEach es X.env)).any (·.1)=false:=by rfl):PE X (.Call (.Name x p) (e :: es) [] pos) (tCB r t):=by
 intro pins s σ H Q I h
 refine wpAny_Call_Name_kw (zea I hg hm hv ?_ hn hdb)
 exact PyProof.Rows.callWith_type1 (thnE (ha pos pins s σ H _ I h) fun us s1 vs H1 I1 r1 q1=>hc pins s1 σ H1 vs us Q I1 r1 q1) he hpl
end
end L2
namespace HT
open PySem PyProof.Rows
section
open PySem.SeqAt
open PySem.AutoSeq1 (wpAny_loadPart')
open PySem.MeetsSeq PySem.MeetsSeq2 PySem.MeetsSeq3
end
section
variable {prog:Program} {w:World} {A:Around} {E:Value->Shared->Prop} {s:Shared}
noncomputable def sIx (n d:Nat):Option Int->Nat
 | none=>d
 | some v=>if v < 0 then (v + (n:Int)).toNat else min v.toNat n
theorem sIx_none (n d:Nat):sIx n d none=d:=rfl
theorem sIx_nat (n d k:Nat):sIx n d (some (k:Int))=min k n:=by
 show (if (k:Int) < 0 then ((k:Int) + (n:Int)).toNat else min (k:Int).toNat n)=min k n
 rw [if_neg (by omega),Int.toNat_natCast]
end
end HT
namespace L2
open PySem PySem.Spec PyProof.Rows
noncomputable abbrev TO:=St->Hp->(Option Int->Hp->Prop)->Prop
noncomputable def PO (X:Cx) (e:Option Expr) (t:TO):Prop :=
 ∀ (pins:List (Addr×Obj)) (s:Shared) (σ : St) (H:Hp) (Q:Option Int->Hp->Prop),Inv X pins σ H s->t σ H Q ->
  wpAny (model X.prog X.w) X.A (evalPart e X.env) (fun u s'=>∃ o H',Inv X pins σ H' s'/\IsPart u o/\Q o H') X.xe s
noncomputable def tNoPart:TO:=fun _ H Q=>Q none H
noncomputable def tPart (t:TE):TO:=fun σ H Q=>t σ H fun x H1=>∃ i,x = .int i/\Q (some i) H1
section
variable {X:Cx} {e:Expr} {te:TE} {lo hi:Option Expr} {tl th:TO} {pos p2:Pos}
theorem zfR:PO X none tNoPart:=by
 intro pins s σ H Q I h
 rw [evalPart_none]
 exact wpAny_pure ⟨none,H,I,.none,h⟩
theorem zfQ (h:PE X e te):PO X (some e) (tPart te):=by
 intro pins s σ H Q I hw
 rw [evalPart_some]
 refine thnE (h pins s σ H _ I hw) fun u s1 x H1 I1 r1 q1 => ?_
 obtain ⟨i,rfl,q⟩:=q1
 obtain ⟨t,rfl⟩:=r1
 exact ⟨some i,H1,I1,.int i t,q⟩
noncomputable def SlR (X:Cx) (r:V->Option Int->Option Int->Hp->VK->Prop):Prop :=
 ∀ (pins:List (Addr×Obj)) (s:Shared) (σ : St) (H:Hp) (x:V) (v vl vu:Value) (lo hi:Option Int) (sl:Addr) (Q:VK),Inv X pins σ H s->RelV x v->s.heap.IsSliceOf sl vl vu .none->IsPart vl lo->IsPart vu hi->r x lo hi H Q ->
  ∃ T id,typeLookup (.type T) "__getitem__" = pure (some (.builtin id))/\s.TypeIs v T/\wpAny (model X.prog X.w) X.A (getItem v (.ref sl)) (EP X pins σ Q) X.xe s
noncomputable def tSl (r:V->Option Int->Option Int->Hp->VK->Prop) (te:TE) (tl th:TO):TE:=fun σ H Q=>te σ H fun x H1=>tl σ H1 fun l H2=>th σ H2 fun u H3=>r x l u H3 Q
theorem zfg {r:V->Option Int->Option Int->Hp->VK->Prop} (hr:SlR X r) (he:PE X e te) (hl:PO X lo tl) (hu:PO X hi th):PE X (.Subscript e (.Slice lo hi none p2) pos) (tSl r te tl th):=by
 intro pins s σ H Q I h
 refine Subscript_ (thnE (he pins s σ H _ I h) fun v s1 x H1 I1 r1 q1 => ?_)
 refine wpAny_Slice (thn (hl pins s1 σ H1 _ I1 q1) fun vl s2 ⟨l,H2,I2,pl,q2⟩=>thn (hu pins s2 σ H2 _ I2 q2) fun vu s3 ⟨u,H3,I3,pu,q3⟩ => ?_)
 rw [evalPart_none]
 refine wpAny_pure ?_
 have I4:Inv X pins σ H3 { s3 with heap:=s3.heap.push { cls := .type "slice",data := .fields #[vl,vu,.none] } }:=I3.kept (t':=s3.toks) fun b ob q=>Heap.get?_push_of_some _ q
 obtain ⟨T,id,hT,ht,hg⟩:=hr pins { s3 with heap:=s3.heap.push { cls := .type "slice",data := .fields #[vl,vu,.none] } } σ H3 x v vl vu l u s3.heap.objs.size Q I4 r1 (Heap.IsSliceOf.new ..) pl pu q3
 show wpAny (model X.prog X.w) X.A (subscriptTail e (.Slice lo hi none p2) v (.ref s3.heap.objs.size)) (EP X pins σ Q) X.xe { s3 with heap:=s3.heap.push { cls := .type "slice",data := .fields #[vl,vu,.none] } }
 exact tail_any (ops := [.ref s3.heap.objs.size,v]) ht hT hg (by with_unfolding_all rfl)
noncomputable def cutV (xs:List V) (lo hi:Option Int):List V:=(xs.drop (HT.sIx xs.length 0 lo)).take (HT.sIx xs.length xs.length hi - HT.sIx xs.length 0 lo)
theorem cutV_length (xs:List V) (lo hi:Option Int):(cutV xs lo hi).length<=xs.length:=by
 unfold cutV
 rw [List.length_take,List.length_drop]
 omega
end
noncomputable def ixN (n:Nat) (i:Int):Option Nat:=if 0<=i then (if i < n then some i.toNat else none) else if -(n:Int)<=i then some (i + n).toNat else none
noncomputable def atI {α : Type} (xs:List α) (i:Int):Option α := (ixN xs.length i).bind fun j=>xs[j]?
theorem zf1 {n:Nat} {i:Int} {j:Nat} (h:ixN n i=some j):seqIndex? i n=some j/\j < n /\ -(n:Int)<=i/\i < n:=by
 unfold ixN at h
 by_cases h0:0<=i
 ·rw [if_pos h0] at h
  by_cases h1:i < n
  ·rw [if_pos h1] at h
   have e:i.toNat=j:=Option.some.inj h
   exact ⟨by rw [seqIndex_of h0 h1,e],by omega,by omega,h1⟩
  ·rw [if_neg h1] at h; cases h
 ·rw [if_neg h0] at h
  by_cases h1 : -(n:Int)<=i
  ·rw [if_pos h1] at h
   have e:(i + n).toNat=j:=Option.some.inj h
   exact ⟨by rw [seqIndex_neg (by omega) h1,e],by omega,h1,by omega⟩
  ·rw [if_neg h1] at h; cases h
theorem zeM {α : Type} {xs:List α} {i:Int} {v : α} (h:atI xs i=some v):∃ j,seqIndex? i xs.length=some j/\xs[j]?=some v/\j < xs.length /\ -(xs.length:Int)<=i/\i < xs.length:=by
 unfold atI at h
 cases e:ixN xs.length i with
 | none=>rw [e] at h; cases h
 | some j =>
  rw [e] at h
  obtain ⟨h1,h2,h3,h4⟩:=zf1 e
  exact ⟨j,h1,h,h2,h3,h4⟩
theorem zas {α : Type} {xs:List α} {j:Nat} {v : α} (h:xs[j]?=some v):atI xs (j:Int)=some v:=by
 have hj:j < xs.length:=(List.getElem?_eq_some_iff.mp h).1
 have e:ixN xs.length (j:Int)=some j:=by
  unfold ixN
  rw [if_pos (by omega),if_pos (by omega)]; simp
 unfold atI; rw [e]; exact h
noncomputable def PlainIx (b:Expr):Prop:=∀ o i,subscripted b false o i=operate [o,i] (getItem o i)
noncomputable def IxR (X:Cx) (r:R2):Prop :=
 ∀ (value slice:Expr) (pins:List (Addr×Obj)) (s:Shared) (σ : St) (H:Hp) (x y:V) (v u:Value) (Q:VK),Inv X pins σ H s->RelV x v->RelV y u->r x y H Q ->
  subscripted slice false v u=operate [v,u] (getItem v u)->wpAny (model X.prog X.w) X.A (subscriptTail value slice v u) (EP X pins σ Q) X.xe s
noncomputable def MtR (X:Cx) (id:String) (r:V->List V->Hp->VK->Prop):Prop :=
 ∀ (pins:List (Addr×Obj)) (s:Shared) (σ : St) (H:Hp) (x:V) (xs:List V) (v:Value) (us:List Value) (Q:VK),Inv X pins σ H s->RelV x v->Vals xs us->r x xs H Q ->
  wpAny (model X.prog X.w) X.A (call (.builtin id) (v :: us)) (EP X pins σ Q) X.xe s
section
variable {X:Cx} {a b:Expr} {ta tb:TE} {pos:Pos}
theorem zaz {r:R2} (hr:IxR X r) (ha:PE X a ta) (hb:PE X b tb) (hs:PlainIx b):PE X (.Subscript a b pos) (tOp r ta tb):=by
 intro pins s σ H Q I h
 exact Subscript_ (binT ha hb I h fun v u s2 x y H2 I2 rx ry q=>hr a b pins s2 σ H2 x y v u Q I2 rx ry q (hs _ _))
noncomputable def rIxL (K:W.Frag):R2:=fun x y H Q=>∃ p xs i v,x = .ref p/\y = .int i/\SqL K H p xs/\atI xs i=some v/\Q v H
noncomputable def rIxT (K:W.Frag):R2:=fun x y H Q=>∃ p xs i v,x = .ref p/\y = .int i/\SqT K H p xs/\atI xs i=some v/\Q v H
noncomputable def rIxS:R2:=fun x y H Q=>∃ z i c,x = .str z/\y = .int i/\z.length<=sizeLine/\atI z.cps.toList i=some c/\Q (.str ⟨#[c]⟩) H
theorem zaC:IxR X (rIxL X.K):=by
 intro value slice pins s σ H x y v u Q I rx ry h hs
 obtain ⟨p,xs,i,z,rfl,rfl,hq,he,q⟩:=h
 cases rx
 obtain ⟨t,rfl⟩:=ry
 obtain ⟨its,r,pl,hz⟩:=I.list hq
 obtain ⟨j,h1,h2,h3,h4,h5⟩:=zeM he
 obtain ⟨w,ew,rw'⟩:=r.get h2
 have hl:=r.length
 have hn:=zdj
 have fin:EP X pins σ Q w s:=⟨z,H,I,rw',q⟩
 by_cases h0:0<=i
 ·have hj:i.toNat=j:=by
   rw [seqIndex_of h0 h5] at h1
   exact Option.some.inj h1
  exact item_listR pl.isList h0 (by omega) (by rw [hj]; simpa using ew) fin hs
 ·have hj:(i + (its.toArray.size:Int)).toNat=j:=by
   rw [seqIndex_neg (by omega) h4] at h1
   rw [List.size_toArray,<- hl]
   exact Option.some.inj h1
  exact subscriptTail_builtinR (x:=w) pl.isList.typeIs slot_list_getitem.lookup
   (wpAny_getItem_list_neg (Q:=fun r s'=>r=w/\EP X pins σ Q r s') pl.isList (by omega) (by rw [List.size_toArray] <;> omega) (by omega) (by rw [hj]; simpa using ew) ⟨rfl,fin⟩) hs
theorem za6:IxR X (rIxT X.K):=by
 intro value slice pins s σ H x y v u Q I rx ry h hs
 obtain ⟨p,xs,i,z,rfl,rfl,hq,he,q⟩:=h
 cases rx
 obtain ⟨t,rfl⟩:=ry
 obtain ⟨its,r,pl,hz⟩:=I.tuple hq
 obtain ⟨j,h1,h2,h3,h4,h5⟩:=zeM he
 obtain ⟨w,ew,rw'⟩:=r.get h2
 have hl:=r.length
 have hn:=zdj
 have fin:EP X pins σ Q w s:=⟨z,H,I,rw',q⟩
 exact subscriptTail_builtinR (x:=w) pl.typeIs slot_tuple_getitem.lookup
  (getItem_tuple (j:=j) (Q:=fun r s'=>r=w/\EP X pins σ Q r s') pl (by omega) (by omega) (by rw [List.size_toArray,<- hl]; exact h1) (by simpa using ew) ⟨rfl,fin⟩) hs
theorem ix_str:IxR X rIxS:=by
 intro value slice pins s σ H x y v u Q I rx ry h hs
 obtain ⟨z,i,c,rfl,rfl,hz,he,q⟩:=h
 obtain ⟨t,rfl⟩:=rx
 obtain ⟨t',rfl⟩:=ry
 obtain ⟨j,h1,h2,h3,h4,h5⟩:=zeM he
 have hl:z.cps.toList.length=z.length:=by simp [Str.length]
 rw [hl] at h1 h4 h5
 have hn:=zdj
 exact tail_any (typeIs_str s z t) slot_str_getitem.lookup (getItem_str (c:=c) (by
  have e1:decide (i < -(2 ^ 63:Int))=false:=decide_eq_false (by omega)
  have e2:decide (i>=2 ^ 63)=false:=decide_eq_false (by omega)
  rw [e1,e2,Bool.or_false]) (by rw [h1]; simpa using h2) ⟨.str ⟨#[c]⟩,H,I.tok _,⟨_,rfl⟩,q⟩) hs
theorem mapSeq_set (its:List Value) (n j:Nat) (u:Value):Obj.mapSeq (·.setIfInBounds j u) { cls := .type "list",data := .seq its.toArray n }={ cls := .type "list",data := .seq (its.set j u).toArray n }:=by
 simp [Obj.mapSeq]
theorem Inv.lst {pins:List (Addr×Obj)} {σ : St} {H:Hp} {s:Shared} {p:Addr} {xs:List V} (I:Inv X pins σ H s) (h:H p=some (.lst xs)) :
  ∃ (its:List Value) (n:Nat),Vals xs its/\s.heap.get? p=some { cls := .type "list",data := .seq its.toArray n }/\xs.length<=sizeLine:=by
 obtain ⟨z,its,n,r,e⟩:=I.hok p _ h
 exact ⟨its,n,r,e,z⟩
theorem Inv.lstUpd {pins:List (Addr×Obj)} {σ : St} {H:Hp} {s:Shared} {p:Addr} {xs ys:List V} {its its':List Value} {n n':Nat} {f:Obj->Obj} (I:Inv X pins σ H s) (h:H p=some (.lst xs))
  (ho:s.heap.get? p=some { cls := .type "list",data := .seq its.toArray n }) (hf:f { cls := .type "list",data := .seq its.toArray n }={ cls := .type "list",data := .seq its'.toArray n' }) (r:Vals ys its') (hz:ys.length<=sizeLine) (t:Nat) :
  Inv X pins σ (upd H p (.lst ys)) { s with heap:=s.heap.update p f,toks:=t }:=by
 have e:(s.heap.update p f).get? p=some { cls := .type "list",data := .seq its'.toArray n' }:=by
  rw [Heap.get?_update_self f ho (by rw [hf] <;> rfl),hf]
 refine I.write (x:=p) (e:=p) (by rw [h]; trivial) (.inl rfl) (fun b u hb q=>(Heap.get?_update_other _ _ (Ne.symm hb)).trans q) ⟨_,e⟩ ?_
 exact ⟨hz,its',n',r,e⟩
noncomputable def rSetL:V->V->V->Hp->(Hp->Prop)->Prop:=fun o i v H Q=>∃ p xs k j,o = .ref p/\i = .int k/\H p=some (.lst xs)/\ixN xs.length k=some j/\Q (upd H p (.lst (xs.set j v)))
theorem ze2:PSet X rSetL:=by
 intro pins s σ H o i v ov iv u Q I ro ri rv h
 obtain ⟨p,xs,k,j,rfl,rfl,hp,hj,q⟩:=h
 cases ro
 obtain ⟨t,rfl⟩:=ri
 obtain ⟨its,n,r,ho,hz⟩:=I.lst hp
 obtain ⟨h1,h2,h3,h4⟩:=zf1 hj
 have hl:=r.length
 have hn:=zdj
 have I':Inv X pins σ (upd H p (.lst (xs.set j v))) { s with heap:=s.heap.update p (Obj.mapSeq (·.setIfInBounds j u)) } :=
  I.lstUpd hp ho (mapSeq_set its n j u) (r.set rv j) (by rw [List.length_set]; exact hz) s.toks
 by_cases h0:0<=k
 ·have hk:k.toNat=j:=by
   rw [seqIndex_of h0 h4] at h1
   exact Option.some.inj h1
  exact PySem.W.ki_setAt ho h0 (by omega) (by rw [List.size_toArray,<- hl]; exact h4) (by rw [hk]; exact ⟨_,I',q⟩)
 ·have hk:(k + (its.toArray.size:Int)).toNat=j:=by
   rw [seqIndex_neg (by omega) h3] at h1
   rw [List.size_toArray,<- hl]
   exact Option.some.inj h1
  exact PySem.W.ki_setBack ho (by omega) (by rw [List.size_toArray,<- hl]; exact h3) (by omega) (by rw [hk]; exact ⟨_,I',q⟩)
theorem slice_bounds (lo hi:Option Int) (n:Nat):(sliceBounds lo hi none n).1=((HT.sIx n 0 lo:Nat):Int)/\(sliceBounds lo hi none n).2.1=((HT.sIx n n hi:Nat):Int)/\(sliceBounds lo hi none n).2.2=1:=by
 refine ⟨?_,?_,rfl⟩
 ·cases lo with
  | none=>simp [sliceBounds,HT.sIx]
  | some i =>
   simp only [sliceBounds,HT.sIx,Option.getD_none,show (1:Int) > 0 by decide,if_true]
   by_cases h:i < 0
   ·simp only [h,if_true] <;> omega
   ·simp only [h,if_false] <;> omega
 ·cases hi with
  | none=>simp [sliceBounds,HT.sIx]
  | some i =>
   simp only [sliceBounds,HT.sIx,Option.getD_none,show (1:Int) > 0 by decide,if_true]
   by_cases h:i < 0
   ·simp only [h,if_true] <;> omega
   ·simp only [h,if_false] <;> omega
theorem slicePick_cut (its:List Value) (lo hi:Option Int):slicePick its.toArray lo hi none=((its.drop (HT.sIx its.length 0 lo)).take (HT.sIx its.length its.length hi - HT.sIx its.length 0 lo)).toArray:=by
 obtain ⟨h1,h2,h3⟩:=slice_bounds lo hi its.toArray.size
 unfold slicePick
 rw [h1,h2,h3]
 simp only [sliceRange_one,pick_run,List.size_toArray] <;> rfl
noncomputable def rSlL (K:W.Frag):V->Option Int->Option Int->Hp->VK->Prop:=fun x lo hi H Q=>∃ a xs,x = .ref a/\SqL K H a xs/\∀ p,H p=none->Q (.ref p) (upd H p (.lst (cutV xs lo hi)))
theorem zfA:SlR X (rSlL X.K):=by
 intro pins s σ H x v vl vu lo hi sl Q I rx hs pl pu h
 obtain ⟨a,xs,rfl,hx,q⟩:=h
 cases rx
 obtain ⟨its,r,ht,hz⟩:=I.list hx
 have hlen:=r.length
 refine ⟨"list",_,slot_list_getitem.lookup,ht.isList.typeIs,?_⟩
 refine wpAny_getItem_list_slice ht.isList hs pl pu .none (by simp) ?_ (by rw [List.size_toArray] <;> omega)
 rw [slicePick_cut,<- hlen]
 refine ⟨.ref s.heap.objs.size,_,I.laid (t':=s.toks) (o := .lst (cutV xs lo hi)) (fun b ob q=>Heap.get?_push_of_some _ q) (Nat.le_refl _) ?_,rfl,q _ (I.hok.fresh (Nat.le_refl _))⟩
 exact ⟨Nat.le_trans (cutV_length xs lo hi) hz,_,0,(r.drop (HT.sIx xs.length 0 lo)).take (HT.sIx xs.length xs.length hi - HT.sIx xs.length 0 lo),Heap.get?_push_size _ rfl⟩
noncomputable def flatV:V->Bool
 | .non=>true
 | .bl _=>true
 | .int _=>true
 | .str _=>true
 | _=>false
noncomputable def eqV:V->V->Bool
 | .non,.non=>true
 | .bl a,.bl b=>a == b
 | .bl a,.int b=>(if a then 1 else 0) == b
 | .int a,.bl b=>a == (if b then 1 else 0)
 | .int a,.int b=>a == b
 | .str a,.str b=>a == b
 | _,_=>false
theorem eqAt_V {A:Around} {s:Shared} {y x:V} {u v:Value} (ry:RelV y u) (rx:RelV x v) (fy:flatV y=true) (fx:flatV x=true):SeqAt.EqAt A s u v (eqV y x):=by
 cases y with
 | non =>
  cases ry
  cases x with
  | non=>cases rx; exact SeqAt.EqAt.same _
  | bl b=>cases rx; exact SeqAt.EqAt.none_bool b
  | int b=>obtain ⟨t,rfl⟩:=rx; exact SeqAt.EqAt.none_int b t
  | str b=>obtain ⟨t,rfl⟩:=rx; exact SeqAt.EqAt.none_str b t
  | _=>exact absurd (show false=true from fx) Bool.false_ne_true
 | bl a =>
  cases ry
  cases x with
  | non=>cases rx; exact SeqAt.EqAt.bool_none a
  | bl b=>cases rx; exact SeqAt.EqAt.bool_bool a b
  | int b=>obtain ⟨t,rfl⟩:=rx; exact SeqAt.EqAt.bool_int a b t
  | str b=>obtain ⟨t,rfl⟩:=rx; exact SeqAt.EqAt.bool_str a b t
  | _=>exact absurd (show false=true from fx) Bool.false_ne_true
 | int a =>
  obtain ⟨t',rfl⟩:=ry
  cases x with
  | non=>cases rx; exact SeqAt.EqAt.int_none a t'
  | bl b=>cases rx; exact SeqAt.EqAt.int_bool a t' b
  | int b=>obtain ⟨t,rfl⟩:=rx; exact SeqAt.EqAt.int_int a t' b t
  | str b=>obtain ⟨t,rfl⟩:=rx; exact SeqAt.EqAt.int_str a t' b t
  | _=>exact absurd (show false=true from fx) Bool.false_ne_true
 | str a =>
  obtain ⟨t',rfl⟩:=ry
  cases x with
  | non=>cases rx; exact SeqAt.EqAt.str_none a t'
  | bl b=>cases rx; exact SeqAt.EqAt.str_bool a t' b
  | int b=>obtain ⟨t,rfl⟩:=rx; exact SeqAt.EqAt.str_int a t' b t
  | str b=>obtain ⟨t,rfl⟩:=rx; exact SeqAt.EqAt.str_str a t' b t
  | _=>exact absurd (show false=true from fx) Bool.false_ne_true
 | _=>exact absurd (show false=true from fy) Bool.false_ne_true
noncomputable def eqU (x:V) (u:Value):Bool:=match u with
 | .none=>eqV .non x
 | .bool b=>eqV (.bl b) x
 | .int i _=>eqV (.int i) x
 | .str z _=>eqV (.str z) x
 | _=>false
theorem zgF {x y:V} {u:Value} (r:RelV y u) (f:flatV y=true):eqU x u=eqV y x:=by
 cases y with
 | non=>cases r; rfl
 | bl b=>cases r; rfl
 | int i=>obtain ⟨t,rfl⟩:=r; rfl
 | str z=>obtain ⟨t,rfl⟩:=r; rfl
 | _=>exact absurd (show false=true from f) Bool.false_ne_true
theorem zcY {x:V}:∀ {xs:List V} {us:List Value},Vals xs us->xs.all flatV=true->us.any (eqU x)=xs.any fun y=>eqV y x
 | _,_,.nil,_=>rfl
 | y :: xs,u :: us,.cons r t,f=>by
  rw [List.all_cons,Bool.and_eq_true] at f
  rw [List.any_cons,List.any_cons,zgF r f.1,zcY t f.2]
theorem zcc {A:Around} {s:Shared} {x:V} {v:Value} (rx:RelV x v) (fx:flatV x=true):∀ {xs:List V} {us:List Value},Vals xs us->xs.all flatV=true->∀ u∈us,SeqAt.EqAt A s u v (eqU x u)
 | _,_,.nil,_=>fun u hu=>by cases hu
 | y :: xs,u :: us,.cons r t,f=>fun u' hu=>by
  rw [List.all_cons,Bool.and_eq_true] at f
  rcases List.mem_cons.mp hu with rfl | hu
  ·rw [zgF r f.1]; exact eqAt_V r rx f.1 fx
  ·exact zcc rx fx t f.2 u' hu
noncomputable def inV (x:V) (xs:List V):Bool:=xs.any fun y=>eqV y x
noncomputable def rIn (K:W.Frag) (neg:Bool):R2:=fun x y H Q=>∃ p xs,y = .ref p/\(SqL K H p xs\/SqT K H p xs)/\flatV x=true/\xs.all flatV=true/\Q (.bl (if neg then !inV x xs else inV x xs)) H
theorem zcL:OpR X (compareOp .In) (rIn X.K false):=by
 intro pins s σ H x y v u Q I rx ry h
 obtain ⟨p,xs,rfl,hq,fx,fs,q⟩:=h
 cases ry
 rcases hq with hq | hq
 ·obtain ⟨its,r,pl,hz⟩:=I.list hq
  refine SeqAt.in_listAt (eqU x) pl.isList (fun w hw=>zcc rx fx r fs w (by simpa using hw)) ⟨.bl _,H,I,rfl,?_⟩
  rw [show its.toArray.any (eqU x)=its.any (eqU x) by simp,zcY r fs]
  exact q
 ·obtain ⟨its,r,pl,hz⟩:=I.tuple hq
  refine SeqAt.in_tupleAt (eqU x) pl (fun w hw=>zcc rx fx r fs w (by simpa using hw)) ⟨.bl _,H,I,rfl,?_⟩
  rw [show its.toArray.any (eqU x)=its.any (eqU x) by simp,zcY r fs]
  exact q
theorem zbM:OpR X (compareOp .NotIn) (rIn X.K true):=by
 intro pins s σ H x y v u Q I rx ry h
 obtain ⟨p,xs,rfl,hq,fx,fs,q⟩:=h
 cases ry
 rcases hq with hq | hq
 ·obtain ⟨its,r,pl,hz⟩:=I.list hq
  refine SeqAt.notIn_listAt (eqU x) pl.isList (fun w hw=>zcc rx fx r fs w (by simpa using hw)) ⟨.bl _,H,I,rfl,?_⟩
  rw [show its.toArray.any (eqU x)=its.any (eqU x) by simp,zcY r fs]
  exact q
 ·obtain ⟨its,r,pl,hz⟩:=I.tuple hq
  refine SeqAt.notIn_tupleAt (eqU x) pl (fun w hw=>zcc rx fx r fs w (by simpa using hw)) ⟨.bl _,H,I,rfl,?_⟩
  rw [show its.toArray.any (eqU x)=its.any (eqU x) by simp,zcY r fs]
  exact q
theorem zau:CallR X (.builtin "len") (fun xs H Q=>∃ p ys,xs = [.ref p]/\(SqL X.K H p ys\/SqT X.K H p ys)/\Q (.int ys.length) H):=by
 intro pins s σ H xs us Q I r h
 obtain ⟨p,ys,rfl,hq,q⟩:=h
 obtain ⟨u,rfl,rx⟩:=zb5 r
 cases rx
 have hn:=zdj
 rcases hq with hq | hq
 ·obtain ⟨its,r',pl,hz⟩:=I.list hq
  have hlen:=r'.length
  exact Calls.call_len_list pl.isList (by simp only [List.size_toArray] <;> omega) ⟨.int ys.length,H,I.tok _,⟨s.toks + 1,by rw [List.size_toArray,hlen]⟩,q⟩
 ·obtain ⟨its,r',pl,hz⟩:=I.tuple hq
  have hlen:=r'.length
  exact len_tuple pl (by simp only [List.size_toArray] <;> omega) ⟨.int ys.length,H,I.tok _,⟨s.toks + 1,by rw [List.size_toArray,hlen]⟩,q⟩
theorem call_len_str:CallR X (.builtin "len") (fun xs H Q=>∃ z,xs = [.str z]/\z.length<=sizeLine/\Q (.int z.length) H):=by
 intro pins s σ H xs us Q I r h
 obtain ⟨z,rfl,hz,q⟩:=h
 obtain ⟨u,rfl,t,rfl⟩:=zb5 r
 have hn:=zdj
 exact len_str (by omega) ⟨.int z.length,H,I.tok _,⟨_,rfl⟩,q⟩
theorem zbO:CallR X (.type "list") (fun xs H Q=>∃ p ys,xs = [.ref p]/\(SqL X.K H p ys\/SqT X.K H p ys)/\∀ l,H l=none->Q (.ref l) (upd H l (.lst ys))):=by
 intro pins s σ H xs us Q I r h
 obtain ⟨p,ys,rfl,hq,q⟩:=h
 obtain ⟨u,rfl,rx⟩:=zb5 r
 cases rx
 have fin:∀ (its:List Value),Vals ys its->ys.length<=sizeLine->∀ (h':Heap) (c':Nat),(∀ b o',s.heap.get? b=some o'->h'.get? b=some o') ->
   h'.get? s.heap.objs.size=some { cls := .type "list",dict:=none,data := .seq its.toArray c',slots := #[] }->EP X pins σ Q (.ref s.heap.objs.size) { s with heap:=h' }:=fun its r' hz h' c' kp e =>
  ⟨.ref s.heap.objs.size,_,I.laid (t':=s.toks) kp (Nat.le_refl _) (show ObjOk X.prog X.w _ h' _ (.lst ys) from ⟨hz,its,c',r',e⟩),rfl,q _ (I.hok.fresh (Nat.le_refl _))⟩
 rcases hq with hq | hq
 ·obtain ⟨its,r',pl,hz⟩:=I.list hq
  have hlen:=r'.length
  obtain ⟨o,ho,hc,n,hd⟩:=pl.isList
  exact call_list_seq p (.inl rfl) ho hc hd (fun h' c' kp e=>fin its r' hz h' c' kp e) (by simp only [List.size_toArray] <;> omega)
 ·obtain ⟨its,r',pl,hz⟩:=I.tuple hq
  have hlen:=r'.length
  obtain ⟨o,ho,hc,n,hd⟩:=pl
  exact call_list_seq p (.inr rfl) ho hc hd (fun h' c' kp e=>fin its r' hz h' c' kp e) (by simp only [List.size_toArray] <;> omega)
theorem call_tuple_of:CallR X (.type "tuple") (fun xs H Q=>∃ p ys,xs = [.ref p]/\((SqL X.K H p ys/\∀ l,H l=none->Q (.ref l) (upd H l (.tup ys)))\/(SqT X.K H p ys/\Q (.ref p) H))):=by
 intro pins s σ H xs us Q I r h
 obtain ⟨p,ys,rfl,h⟩:=h
 obtain ⟨u,rfl,rx⟩:=zb5 r
 cases rx
 rcases h with ⟨hq,q⟩ | ⟨hq,q⟩
 ·obtain ⟨its,r',pl,hz⟩:=I.list hq
  have hlen:=r'.length
  refine call_tuple_list pl.isList (fun h' kp => ?_) (by simp only [List.size_toArray] <;> omega)
  have I1:Inv X pins σ H { s with heap:=h' }:=I.kept (t':=s.toks) kp
  have I2:Inv X pins σ (upd H h'.objs.size (.tup ys)) { s with heap:=h'.push { cls := .type "tuple",data := .seq its.toArray } } :=
   I1.laid (t':=s.toks) (fun b o e=>Heap.get?_push_of_some _ e) (Nat.le_refl _) (show ObjOk X.prog X.w _ _ _ (.tup ys) from ⟨hz,its,r',IsTup.new _ _⟩)
  exact ⟨.ref h'.objs.size,_,I2,rfl,q _ (I1.hok.fresh (Nat.le_refl _))⟩
 ·obtain ⟨its,r',pl,hz⟩:=I.tuple hq
  exact call_tuple_same pl ⟨.ref p,H,I,rfl,q⟩
noncomputable def tyV (K:W.Frag) (T:String) (x:V) (H:Hp):Prop:=match x with
 | .str _=>T = "str"
 | .int _=>T = "int"
 | .ref p=>(T = "list" /\ ∃ xs,SqL K H p xs)\/(T = "tuple" /\ ∃ o,K.lookup p=some o/\o.cls = .type "tuple" /\ o.dict=none) \/
   (T = "dict" /\ ((∃ kvs,H p=some (.dK kvs))\/∃ kvs,H p=some (.dT kvs)))\/(T = "set" /\ ∃ S n,H p=some (.set S n))
 | _=>False
theorem zgo {pins:List (Addr×Obj)} {σ : St} {H:Hp} {s:Shared} {T:String} {x:V} {v:Value} (I:Inv X pins σ H s) (r:RelV x v) (ty:tyV X.K T x H) :
  s.TypeIs v T/\∀ a,v = .ref a->∃ ob,s.heap.get? a=some ob/\ob.dict=none:=by
 cases x with
 | str z =>
  obtain ⟨t,rfl⟩:=r
  cases (show T = "str" from ty)
  exact ⟨typeIs_str s z t,fun _ e=>nomatch e⟩
 | int i =>
  obtain ⟨t,rfl⟩:=r
  cases (show T = "int" from ty)
  exact ⟨typeIs_int s i t,fun _ e=>nomatch e⟩
 | ref p =>
  cases r
  rcases ty with ⟨rfl,xs,hq⟩ | ⟨rfl,o,hk,hc,hd⟩ | ⟨rfl,hk⟩ | ⟨rfl,S,n,hk⟩
  ·obtain ⟨its,_,pl,_⟩:=I.list hq
   refine ⟨pl.isList.typeIs,fun a e => ?_⟩
   cases e
   obtain ⟨o,n,e,c,hd,_⟩:=pl
   exact ⟨o,e,hd⟩
  ·refine ⟨⟨o,I.kIn p o hk,hc⟩,fun a e => ?_⟩
   cases e
   exact ⟨o,I.kIn _ o hk,hd⟩
  ·have z:∃ o,s.heap.get? p=some o/\o.ExactDict:=by
    rcases hk with ⟨kvs,hk⟩ | ⟨kvs,hk⟩
    ·obtain ⟨_,_,_,_,o,_,_,e,ex,_⟩:=I.hok p _ hk
     exact ⟨o,e,ex⟩
    ·obtain ⟨_,_,_,_,o,_,_,e,ex,_⟩:=I.hok p _ hk
     exact ⟨o,e,ex⟩
   obtain ⟨o,e,ex⟩:=z
   refine ⟨⟨o,e,ex.1⟩,fun a e2 => ?_⟩
   cases e2
   exact ⟨o,e,ex.2.1⟩
  ·obtain ⟨o,_,_,_,e,ex,_⟩:=I.hok p _ hk
   refine ⟨⟨o,e,ex.1⟩,fun a e2 => ?_⟩
   cases e2
   exact ⟨o,e,ex.2.1⟩
 | _=>exact False.elim ty
noncomputable def tBM0 (K:W.Frag) (T:String) (r:V->List V->Hp->VK->Prop) (to:TE):TE:=fun σ H Q=>to σ H fun x H1=>tyV K T x H1/\r x [] H1 Q
noncomputable def tBM (K:W.Frag) (T:String) (r:V->List V->Hp->VK->Prop) (to:TE) (t:TA):TE:=fun σ H Q=>to σ H fun x H1=>tyV K T x H1/\t σ H1 fun xs H2=>r x xs H2 Q
variable {o e:Expr} {es:List Expr} {to:TE} {t:TA} {name:Str} {apos cpos:Pos} {T id:String} {r:V->List V->Hp->VK->Prop}
theorem pe_bm0 (pa:PlainAttrs T) (slot:Slot T name id) (hty:typeOf (.builtin id)=pure (.type "method_descriptor")) (hm:MtR X id r) (ho:PE X o to)
  (hbase:attributeBase o name X.env (eval o X.env)=eval o X.env:=by rfl) (hline:(apos.endLine == cpos.line)=true:=by rfl):PE X (.Call (.Attribute o name apos) [] [] cpos) (tBM0 X.K T r to):=by
 intro pins s σ H Q I h
 refine wpAny_Call_method0_late hbase hline (thnE (ho pins s σ H _ I h) fun v s1 x H1 I1 r1 ⟨ty,q1⟩ => ?_)
 obtain ⟨h1,h2⟩:=zgo I1 r1 ty
 exact ⟨T,id,pa,slot,hty,h1,h2,Calls.callWith_builtin rfl (PySem.evalArgs_none (hm pins s1 σ H1 x [] v [] Q I1 r1 .nil q1))⟩
theorem zcl (pa:PlainAttrs T) (slot:Slot T name id) (hty:typeOf (.builtin id)=pure (.type "method_descriptor")) (hm:MtR X id r) (ho:PE X o to) (ha:PA X (e :: es) t)
  (hbase:attributeBase o name X.env (eval o X.env)=eval o X.env:=by rfl)
  (hfew:((backTo cpos (starEach (e :: es) X.env)).all (fun x => !x.1) && (backToKw cpos (keywordEach [] X.env)).all (fun x=>x.1.isSome)
   && decide ((e :: es).length + ([]:List Keyword).length + (if ([]:List Keyword).isEmpty then 0 else 1) < 30))=true:=by rfl)
  (hline:(apos.endLine == cpos.line)=true:=by rfl) (hs:starEach (e :: es) X.env=(false,eval e X.env) :: starEach es X.env:=by rfl) (hplain:(backTo cpos (starEach es X.env)).any (·.1)=false:=by rfl) :
  PE X (.Call (.Attribute o name apos) (e :: es) [] cpos) (tBM X.K T r to t):=by
 intro pins s σ H Q I h
 refine wpAny_Call_method_late hbase hfew hline rfl (thnE (ho pins s σ H _ I h) fun v s1 x H1 I1 r1 ⟨ty,q1⟩ => ?_)
 obtain ⟨h1,h2⟩:=zgo I1 r1 ty
 refine ⟨T,id,pa,slot,hty,h1,h2,?_⟩
 have hA:=ha cpos pins s1 σ H1 _ I1 q1
 rw [hs] at hA ⊢
 refine Calls.callWith_builtin (by show (false || (backTo cpos (starEach es X.env)).any (·.1))=false; rw [hplain] <;> rfl) (Calls.evalArgs_plain ?_)
 exact thn hA fun us s2 ⟨vs,H2,I2,r2,q2⟩=>hm pins s2 σ H2 x vs v us Q I2 r1 r2 q2
end
noncomputable def MtM (X:Cx) (id:String) (r:V->List V->Hp->VK->Prop):Prop :=
 ∀ (pins:List (Addr×Obj)) (s:Shared) (σ : St) (H:Hp) (x:V) (xs:List V) (v:Value) (us:List Value) (Q:VK),Inv X pins σ H s->RelV x v->Vals xs us->r x xs H Q ->
  wpAny (model X.prog X.w) X.A (call (.builtin id) (v :: us)) (EP X pins σ Q) X.xe s
theorem Vals.one:∀ {x:V} {us:List Value},Vals [x] us->∃ u,us = [u]/\RelV x u
 | _,_,.cons r .nil=>⟨_,rfl,r⟩
theorem Vals.two:∀ {x y:V} {us:List Value},Vals [x,y] us->∃ u v,us = [u,v]/\RelV x u/\RelV y v
 | _,_,_,.cons r (.cons q .nil)=>⟨_,_,rfl,r,q⟩
theorem Vals.zero:∀ {us:List Value},Vals [] us->us = []
 | _,.nil=>rfl
theorem Vals.dropLast {xs:List V} {us:List Value} (h:Vals xs us):Vals xs.dropLast us.dropLast:=by
 induction h with
 | nil=>exact .nil
 | cons r t ih =>
  cases t with
  | nil=>exact .nil
  | cons q t'=>exact .cons r ih
theorem Vals.rep {xs:List V} {us:List Value} (h:Vals xs us):∀ k:Nat,Vals (List.replicate k xs).flatten (List.replicate k us).flatten
 | 0 => .nil
 | k + 1=>by
  rw [List.replicate_succ,List.replicate_succ,List.flatten_cons,List.flatten_cons]
  exact Vals.append h (Vals.rep h k)
theorem erase_last {α : Type} (l:List α):l.eraseIdx (l.length - 1)=l.dropLast:=by
 induction l with
 | nil=>rfl
 | cons a r ih =>
  cases r with
  | nil=>rfl
  | cons b r =>
   have e:(a :: b :: r).length - 1=((b :: r).length - 1) + 1:=by
    have h1:(a :: b :: r).length=r.length + 2:=rfl
    have h2:(b :: r).length=r.length + 1:=rfl
    omega
   rw [e,List.eraseIdx_cons_succ,ih]
   all_goals rfl
theorem zei (its:List Value):∀ (k:Nat) (acc:List Value),
  List.foldl (fun x1 x2=>x1 ++ x2) acc.toArray (List.replicate k its.toArray)=(acc ++ (List.replicate k its).flatten).toArray
 | 0,acc=>by simp
 | k + 1,acc=>by
  have e:acc.toArray ++ its.toArray=(acc ++ its).toArray:=by simp
  have e2:(acc ++ its) ++ (List.replicate k its).flatten=acc ++ (List.replicate (k + 1) its).flatten:=by
   rw [List.replicate_succ,List.flatten_cons,List.append_assoc]
  rw [<- e2,<- zei its k (acc ++ its),<- e,List.replicate_succ,List.foldl_cons]
section
variable {X:Cx} {pins:List (Addr×Obj)} {σ : St} {H:Hp} {s:Shared} {l b:Addr} {xs ys zs:List V}
theorem Inv.lset {its its':List Value} {n:Nat} {f:Array Value->Array Value} {t':Nat} (I:Inv X pins σ H s) (hH:H l=some (.lst xs))
  (e:s.heap.get? l=some { cls := .type "list",data := .seq its.toArray n }) (hf:f its.toArray=its'.toArray) (hv:Vals ys its') (hz:ys.length<=sizeLine) :
  Inv X pins σ (upd H l (.lst ys)) { s with heap:=s.heap.update l (Obj.mapSeq f),toks:=t' }:=by
 have q:=PySem.IsL.update e f
 rw [hf] at q
 refine I.write (x:=l) (e:=l) (by rw [hH]; exact trivial) (.inl rfl) (fun b' u hb hu=>(Heap.get?_update_other s.heap (Obj.mapSeq f) (Ne.symm hb)).trans hu) ⟨_,q⟩ ?_
 exact ⟨hz,its',_,hv,q⟩
theorem Inv.lnew {its:List Value} {t':Nat} (I:Inv X pins σ H s) (hv:Vals ys its) (hz:ys.length<=sizeLine) :
  Inv X pins σ (upd H s.heap.objs.size (.lst ys)) { s with heap:=s.heap.push { cls := .type "list",data := .seq its.toArray },toks:=t' } :=
 I.laid (fun _ _ q=>Heap.get?_push_of_some _ q) (Nat.le_refl _) ⟨hz,its,0,hv,Heap.get?_push_size _ rfl⟩
theorem Inv.fresh (I:Inv X pins σ H s):H s.heap.objs.size=none:=I.hok.fresh (Nat.le_refl _)
theorem Inv.lstM (I:Inv X pins σ H s) (hH:H l=some (.lst xs)):xs.length<=sizeLine/\∃ (its:List Value) (n:Nat),Vals xs its/\xs.length=its.length/\s.heap.get? l=some { cls := .type "list",data := .seq its.toArray n }:=by
 obtain ⟨z,its,n,r,e⟩:=I.hok l _ hH
 exact ⟨z,its,n,r,r.length,e⟩
theorem notLongL {n:Nat} (h:n<=sizeLine):Builtin.List.listTooLong n=false:=by
 unfold Builtin.List.listTooLong
 exact decide_eq_false (by omega)
end
section
variable {X:Cx}
noncomputable def rAppend:V->List V->Hp->VK->Prop:=fun x vs H Q=>∃ l xs y,x = .ref l/\vs = [y]/\H l=some (.lst xs)/\xs.length < sizeLine/\Q .non (upd H l (.lst (xs ++ [y])))
theorem zaH:MtM X "list.append" rAppend:=by
 intro pins s σ H x vs v us Q I rx rv h
 obtain ⟨l,xs,y,rfl,rfl,hH,hz,q⟩:=h
 cases rx
 obtain ⟨u,rfl,ru⟩:=rv.one
 obtain ⟨z,its,n,r,hl,e⟩:=I.lstM hH
 refine call_meets F.slot_list_append ⟨_,e,rfl⟩ F.entry_list_append (F.args_list_append_2 _ _) (PySem.list_append l its.toArray n u (by rw [List.size_toArray]; omega)) ⟨e,?_⟩
 refine ⟨.non,_,I.lset (its':=its ++ [u]) hH e (by simp) (r.append (.cons ru .nil)) ?_,rfl,q⟩
 rw [List.length_append,List.length_singleton]
 omega
noncomputable def rPop:V->List V->Hp->VK->Prop:=fun x vs H Q=>∃ l xs y,x = .ref l/\vs = []/\H l=some (.lst xs)/\xs[xs.length - 1]?=some y/\Q y (upd H l (.lst xs.dropLast))
theorem mt_pop:MtM X "list.pop" rPop:=by
 intro pins s σ H x vs v us Q I rx rv h
 obtain ⟨l,xs,y,rfl,rfl,hH,hy,q⟩:=h
 cases rx
 have hus:=rv.zero
 subst hus
 obtain ⟨z,its,n,r,hl,e⟩:=I.lstM hH
 obtain ⟨u,hu,ru⟩:=r.get hy
 have hy':its.toArray[its.toArray.size - 1]?=some u:=by
  show its.toArray[its.length - 1]?=some u
  rw [<- Array.getElem?_toList,<- hl]
  exact hu
 refine call_meets F.slot_list_pop ⟨_,e,rfl⟩ F.entry_list_pop (F.args_list_pop_1 _) (MeetsSeq.list_pop_last l its.toArray n u hy' (by rw [List.size_toArray]; omega)) ⟨e,?_⟩
 refine ⟨y,_,I.lset (its':=its.dropLast) hH e ?_ r.dropLast ?_,ru,q⟩
 ·show its.toArray.eraseIdxIfInBounds (its.toArray.size - 1)=its.dropLast.toArray
  rw [List.size_toArray,List.eraseIdxIfInBounds_toArray,erase_last]
 ·rw [List.length_dropLast]
  omega
noncomputable def rCat:R2:=fun x y H Q=>∃ l b xs zs,x = .ref l/\y = .ref b/\H l=some (.lst xs)/\H b=some (.lst zs)/\xs.length + zs.length<=sizeLine/\∀ p,H p=none->Q (.ref p) (upd H p (.lst (xs ++ zs)))
theorem zbH:OpR X (binaryOp .Add) rCat:=by
 intro pins s σ H x y v u Q I rx ry h
 obtain ⟨l,b,xs,zs,rfl,rfl,hH,hB,hz,q⟩:=h
 cases rx
 cases ry
 obtain ⟨z,its,n,r,hl,e⟩:=I.lstM hH
 obtain ⟨z2,its2,n2,r2,hl2,e2⟩:=I.lstM hB
 refine PySem.P.add_list e e2 ?_ (by rw [List.size_toArray,List.size_toArray]; omega)
 have ea:its.toArray ++ its2.toArray=(its ++ its2).toArray:=by simp
 rw [ea]
 exact ⟨.ref _,_,I.lnew (t':=s.toks) (r.append r2) (by rw [List.length_append]; omega),rfl,q _ I.fresh⟩
noncomputable def rRep:R2:=fun x y H Q=>∃ l k xs,x = .ref l/\y = .int k/\H l=some (.lst xs) /\ -(2 ^ 63)<=k/\k < 2 ^ 63/\xs.length * k.toNat<=sizeLine /\
 ∀ p,H p=none->Q (.ref p) (upd H p (.lst (List.replicate k.toNat xs).flatten))
theorem len_rep {α : Type} (xs:List α) (k:Nat):(List.replicate k xs).flatten.length=k * xs.length:=by
 induction k with
 | zero=>simp
 | succ k ih=>rw [List.replicate_succ,List.flatten_cons,List.length_append,ih,Nat.succ_mul,Nat.add_comm]
theorem op_rep:OpR X (binaryOp .Mult) rRep:=by
 intro pins s σ H x y v u Q I rx ry h
 obtain ⟨l,k,xs,rfl,rfl,hH,h1,h2,hz,q⟩:=h
 cases rx
 obtain ⟨t,rfl⟩:=ry
 obtain ⟨z,its,n,r,hl,e⟩:=I.lstM hH
 have hlen:its.toArray.size * k.toNat<=sizeLine:=by rw [List.size_toArray,<- hl]; exact hz
 have hcap:¬ its.toArray.size * k.toNat > (2 ^ 63 - 1) / 8:=by
  have:(sizeLine:Nat)<=(2 ^ 63 - 1) / 8:=by decide
  omega
 have hfit:¬ (!Builtin.List.listFitsIndex k)=true:=by
  rw [fitsIndex_both h1 h2]
  exact Bool.false_ne_true
 have hlong:¬ Builtin.List.listTooLong (its.toArray.size * k.toNat)=true:=by
  rw [notLongL hlen]
  exact Bool.false_ne_true
 have hnew:List.foldl (fun x1 x2=>x1 ++ x2) #[] (List.replicate (if its.toArray.isEmpty=true then 0 else k.toNat) its.toArray)=(List.replicate k.toNat its).flatten.toArray:=by
  have f0:∀ m:Nat,List.foldl (fun x1 x2=>x1 ++ x2) #[] (List.replicate m its.toArray)=(List.replicate m its).flatten.toArray:=fun m=>by
   have:=zei its m []
   rw [List.nil_append] at this
   exact this
  rw [f0]
  cases its with
  | nil=>simp
  | cons a r'=>rw [if_neg (by simp)]
 refine wpAny_binaryOp_repeat_ref (T := "list") (U := "int") (by decide) ⟨_,e,rfl⟩ (fun s'=>typeIs_int s' k t) noFill_list_mul F.fills_int_mul F.slot_int_rmul repeat_list F.slot_int_index.lookup
  (call_meets F.slot_int_rmul (typeIs_int s k t) F.entry_int_rmul (F.args_int_rmul_2 _ _) (int___rmul___int_list k t l its.toArray n)
   ⟨e,rfl,⟨_,e,rfl⟩,call_meets F.slot_list_mul ⟨_,e,rfl⟩ F.entry_list_mul (F.args_list_mul_2 _ _) (AutoListH.list___mul___list_int_3 l its.toArray n k t hfit hcap hlong) ⟨e,?_⟩⟩)
 rw [hnew]
 exact ⟨.ref _,_,I.lnew (t':=s.toks) (r.rep k.toNat) (by rw [len_rep,Nat.mul_comm]; exact hz),rfl,q _ I.fresh⟩
end
section
variable {prog:Program} {w:World} {A:Around} {E:Value->Shared->Prop} {s:Shared}
end
section
variable {X:Cx}
end
section
variable {κ : Type} [DecidableEq κ]
noncomputable def valV (kvs:List (κ × V)) (k : κ):Option V:=(kvs.find? fun kv=>decide (kv.1=k)).map (·.2)
noncomputable def putK (kvs:List (κ × V)) (k : κ) (v:V):List (κ × V) :=
 if (kvs.any fun kv=>decide (kv.1=k))=true then kvs.map (fun kv=>if kv.1=k then (kv.1,v) else kv) else kvs ++ [(k,v)]
theorem zaW {p : κ × V} {r:List (κ × V)} {k : κ} (e:p.1=k):valV (p :: r) k=some p.2:=by simp [valV,List.find?_cons,e]
theorem zaQ {p : κ × V} {r:List (κ × V)} {k : κ} (e:¬ p.1=k):valV (p :: r) k=valV r k:=by simp [valV,List.find?_cons,e]
theorem zbf (k : κ):∀ kvs:List (κ × V),(kvs.any fun kv=>decide (kv.1=k))=(valV kvs k).isSome
 | []=>rfl
 | p :: r=>by
  rw [List.any_cons]
  by_cases e:p.1=k
  ·simp only [zaW e,decide_eq_true e,Bool.true_or,Option.isSome_some]
  ·rw [zaQ e,decide_eq_false e,Bool.false_or]; exact zbf k r
theorem zeU (k j : κ) (y:V):∀ kvs:List (κ × V),valV (kvs.map fun kv=>if kv.1=k then (kv.1,y) else kv) j=(valV kvs j).map fun x=>if j=k then y else x
 | []=>rfl
 | p :: r=>by
  have ih:=zeU k j y r
  rw [List.map_cons]
  by_cases h:p.1=k
  ·rw [if_pos h]
   by_cases e:p.1=j
   ·rw [zaW (p:=(p.1,y)) e,zaW e,Option.map_some,if_pos (e.symm.trans h)]
   ·rw [zaQ (p:=(p.1,y)) e,zaQ e,ih]
  ·rw [if_neg h]
   by_cases e:p.1=j
   ·rw [zaW (p:=p) e,zaW e,Option.map_some,if_neg (fun z=>h (e.trans z))]
   ·rw [zaQ (p:=p) e,zaQ e,ih]
theorem zdS (k j : κ) (y:V):∀ kvs:List (κ × V),valV kvs k=none->valV (kvs ++ [(k,y)]) j=if j=k then some y else valV kvs j
 | [],_=>by
  by_cases e:k=j
  ·rw [if_pos e.symm]; exact zaW (p:=(k,y)) e
  ·rw [if_neg (fun z=>e z.symm)]; exact zaQ (p:=(k,y)) e
 | p :: r,hn=>by
  rw [List.cons_append]
  have hk:¬ p.1=k:=fun z=>by rw [zaW z] at hn; cases hn
  rw [zaQ hk] at hn
  have ih:=zdS k j y r hn
  by_cases e:p.1=j
  ·rw [zaW e,zaW e,if_neg (fun z=>hk (e.trans z))]
  ·rw [zaQ e,zaQ e,ih]
theorem zeT (kvs:List (κ × V)) (k j : κ) (y:V):valV (putK kvs k y) j=if j=k then some y else valV kvs j:=by
 unfold putK
 by_cases a:(kvs.any fun kv=>decide (kv.1=k))=true
 ·rw [if_pos a,zeU]
  rw [zbf] at a
  by_cases e:j=k
  ·obtain ⟨x,hx⟩:=Option.isSome_iff_exists.mp a
   rw [if_pos e,e,hx,Option.map_some,if_pos rfl]
  ·rw [if_neg e]
   cases valV kvs j with
   | none=>rfl
   | some x=>rw [Option.map_some,if_neg e]
 ·rw [if_neg a]
  refine zdS k j y kvs ?_
  rw [zbf] at a
  cases q:valV kvs k with
  | none=>rfl
  | some x=>rw [q] at a; exact (a rfl).elim
theorem zcP (kvs:List (κ × V)) (k : κ) (v:V):(putK kvs k v).length<=kvs.length + 1:=by
 unfold putK
 split
 ·rw [List.length_map]; omega
 ·rw [List.length_append,List.length_cons,List.length_nil]; omega
theorem zfd {kvs:List (κ × V)} {k : κ} (v:V) (h:valV kvs k=none):putK kvs k v=kvs ++ [(k,v)]:=by
 unfold putK
 rw [zbf,h]
 exact if_neg (by decide)
theorem RelO.isSome_eq {o:Option V} {u:Option Value} (r:RelO o u):o.isSome=u.isSome:=by
 cases o with
 | none=>cases u with
  | none=>rfl
  | some _=>exact (show False from r).elim
 | some _=>cases u with
  | none=>exact (show False from r).elim
  | some _=>rfl
theorem RelO.getD {o:Option V} {u:Option Value} {d:V} {d':Value} (r:RelO o u) (rd:RelV d d'):RelV (o.getD d) (u.getD d'):=by
 cases o with
 | none=>cases u with
  | none=>exact rd
  | some _=>exact (show False from r).elim
 | some _=>cases u with
  | none=>exact (show False from r).elim
  | some _=>exact r
theorem KV.val {kvs:List (κ × V)} {vs:List (κ × Value)} (r:KV kvs vs) (k : κ):RelO (valV kvs k) (valueAt vs k):=by
 unfold KV at r
 induction r with
 | nil=>exact True.intro
 | @cons p q ps qs h t ih =>
  obtain ⟨h1,h2⟩:=h
  by_cases e:p.1=k
  ·have e':q.1=k:=h1.symm.trans e
   have b:valueAt (q :: qs) k=some q.2:=by simp [valueAt,List.find?_cons,e']
   rw [zaW e,b]; exact h2
  ·have e':¬ q.1=k:=fun z=>e (h1.trans z)
   have b:valueAt (q :: qs) k=valueAt qs k:=by simp [valueAt,List.find?_cons,e']
   rw [zaQ e,b]; exact ih
theorem KV.any {kvs:List (κ × V)} {vs:List (κ × Value)} (r:KV kvs vs) (k : κ):(kvs.any fun kv=>decide (kv.1=k))=vs.any fun kv=>decide (kv.1=k):=by
 unfold KV at r
 induction r with
 | nil=>rfl
 | cons h t ih=>rw [List.any_cons,List.any_cons,ih,h.1]
theorem KV.repl {kvs:List (κ × V)} {vs:List (κ × Value)} (r:KV kvs vs) (k : κ) {y:V} {u:Value} (ry:RelV y u) :
  KV (kvs.map fun kv=>if kv.1=k then (kv.1,y) else kv) (vs.map fun kv=>if kv.1=k then (kv.1,u) else kv):=by
 unfold KV at r ⊢
 induction r with
 | nil=>exact .nil
 | @cons p q ps qs h t ih =>
  rw [List.map_cons,List.map_cons]
  refine .cons ?_ ih
  obtain ⟨h1,h2⟩:=h
  by_cases e:p.1=k
  ·rw [if_pos e,if_pos (h1.symm.trans e)]; exact ⟨h1,ry⟩
  ·rw [if_neg e,if_neg (fun z=>e (h1.trans z))]; exact ⟨h1,h2⟩
theorem KV.put {kvs:List (κ × V)} {vs:List (κ × Value)} (r:KV kvs vs) (k : κ) {y:V} {u:Value} (ry:RelV y u):KV (putK kvs k y) (stored vs k u):=by
 unfold putK stored
 rw [r.any k]
 by_cases e:(vs.any fun kv=>decide (kv.1=k))=true
 ·rw [if_pos e,if_pos e]; exact r.repl k ry
 ·rw [if_neg e,if_neg e]; exact Paired.snoc r ⟨rfl,ry⟩
theorem KV.length {kvs:List (κ × V)} {vs:List (κ × Value)} (r:KV kvs vs):kvs.length=vs.length:=Paired.length r
end
theorem zfw {P:Program} {w:World} {k:Key} {u:Value} (r:RelV (kV k) u):(mixKind P w).is k u=true:=by
 cases k with
 | inl i=>obtain ⟨t,e⟩:=(show ∃ t,u=Value.int i t from r); subst e; exact mixKind_int P w i t
 | inr x=>obtain ⟨t,e⟩:=(show ∃ t,u=Value.str x t from r); subst e; exact mixKind_str P w x t
theorem zed {P:Program} {w:World}:∀ {ks:List Key} {us:List Value},Vals (ks.map kV) us->ItemsAre (mixKind P w) ks us
 | [],_,r=>by rw [List.map_nil] at r; cases r; exact .nil
 | k :: ks,_,r=>by
  rw [List.map_cons] at r
  cases r with
  | cons h t=>exact .cons (zfw h) (zed t)
noncomputable abbrev KT (H:Hp):List (List Key×V)->List (List Key×Addr×Value)->Prop:=Paired fun p q=>p.1=q.1/\H q.2.1=some (.tup (p.1.map kV))/\RelV p.2 q.2.2
theorem KT.val {H:Hp} {kvs:List (List Key×V)} {xs:List (List Key×Addr×Value)} (r:KT H kvs xs) (k:List Key):RelO (valV kvs k) ((atKey xs k).map (·.2)):=by
 induction r with
 | nil=>exact True.intro
 | @cons p q ps qs h t ih =>
  obtain ⟨h1,_,h2⟩:=h
  by_cases e:p.1=k
  ·have e':q.1=k:=h1.symm.trans e
   have b:atKey (q :: qs) k=some q.2:=by simp [atKey,List.find?_cons,e']
   rw [zaW e,b]; exact h2
  ·have e':¬ q.1=k:=fun z=>e (h1.trans z)
   have b:atKey (q :: qs) k=atKey qs k:=by simp [atKey,List.find?_cons,e']
   rw [zaQ e,b]; exact ih
theorem KT.repl {H:Hp} {kvs:List (List Key×V)} {xs:List (List Key×Addr×Value)} (r:KT H kvs xs) (k:List Key) {y:V} {u:Value} (ry:RelV y u) :
  KT H (kvs.map fun kv=>if kv.1=k then (kv.1,y) else kv) (xs.map (putAt k u)):=by
 induction r with
 | nil=>exact .nil
 | @cons p q ps qs h t ih =>
  rw [List.map_cons,List.map_cons]
  refine .cons ?_ ih
  obtain ⟨h1,h2,h3⟩:=h
  unfold putAt
  by_cases e:p.1=k
  ·rw [if_pos e,if_pos (h1.symm.trans e)]; exact ⟨h1,h2,ry⟩
  ·rw [if_neg e,if_neg (fun z=>e (h1.trans z))]; exact ⟨h1,h2,h3⟩
theorem KT.put {H:Hp} {kvs:List (List Key×V)} {xs:List (List Key×Addr×Value)} (r:KT H kvs xs) (k:List Key) {b:Addr} {y:V} {u:Value} (hb:H b=some (.tup (k.map kV))) (ry:RelV y u) :
  KT H (putK kvs k y) (storedH xs k b u):=by
 have e:(kvs.any fun kv=>decide (kv.1=k))=(atKey xs k).isSome:=by
  rw [zbf,(r.val k).isSome_eq,Option.isSome_map]
 unfold putK storedH
 rw [e]
 by_cases q:(atKey xs k).isSome=true
 ·rw [if_pos q,if_pos q]; exact r.repl k ry
 ·rw [if_neg q,if_neg q]; exact Paired.snoc r ⟨rfl,hb,ry⟩
theorem KT.keeps {H H':Hp} {kvs:List (List Key×V)} {xs:List (List Key×Addr×Value)} (r:KT H kvs xs) (ht:∀ b ys,H b=some (.tup ys)->H' b=some (.tup ys)):KT H' kvs xs :=
 Paired.mapP r fun _ _ z=>⟨z.1,ht _ _ z.2.1,z.2.2⟩
section
variable {P:Program} {w:World} {H:Hp} {h:Heap} {a:Addr}
theorem zg0 {u:HO} (ok:HOk P w H h) (e:Rd H a u):ObjOk P w H h a u:=e.ok ok
theorem zdK {kvs:List (Key×V)} (ok:HOk P w H h) (e:Rd H a (.dK kvs)):kvs.length<=sizeLine/\(a == sysModules)=false/\∃ vs,KV kvs vs/\h.DictOf (mixKind P w) a vs :=
 show ObjOk P w H h a (.dK kvs) from zg0 ok e
theorem dk_of {kvs:List (Key×V)} (ok:HOk P w H h) (e:H a=some (.dK kvs)):kvs.length<=sizeLine/\(a == sysModules)=false/\∃ vs,KV kvs vs/\h.DictOf (mixKind P w) a vs:=zdK ok (.inl e)
theorem zcS {ks:List Key} (ok:HOk P w H h) (e:H a=some (.tup (ks.map kV))):(tupleKind (mixKind P w)).is h ks a:=by
 obtain ⟨_,its,r,o,h1,h2,n,h3⟩:=(show ObjOk P w H h a (.tup (ks.map kV)) from ok a _ e)
 exact ⟨o,its.toArray,n,h1,h2,h3,by simpa using zed r⟩
theorem zeJ {kvs:List (List Key×V)} (ok:HOk P w H h) (e:Rd H a (.dT kvs)):kvs.length<=sizeLine/\(a == sysModules)=false /\
  ∃ xs,KT H kvs xs/\h.DictOfH (tupleKind (mixKind P w)) a xs:=by
 obtain ⟨z,y,xs,r,o,es,ep,h1,h2,h3,h4,h5⟩:=(show ObjOk P w H h a (.dT kvs) from zg0 ok e)
 refine ⟨z,y,xs,r,o,es,ep,h1,h2,h3,h4,fun x hx => ?_,h5⟩
 have all:∀ {l:List (List Key×V)} {m:List (List Key×Addr×Value)},KT H l m->∀ x∈m,(tupleKind (mixKind P w)).is h x.1 x.2.1:=by
  intro l m q
  induction q with
  | nil=>intro x hx; exact nomatch hx
  | @cons p q ps qs hq t ih =>
   intro x hx
   rcases List.mem_cons.mp hx with e | hx
   ·subst e
    exact zcS ok (by rw [<- hq.1]; exact hq.2.1)
   ·exact ih x hx
 exact all r x hx
theorem zg4 {kvs:List (List Key×V)} (ok:HOk P w H h) (e:H a=some (.dT kvs)):kvs.length<=sizeLine/\(a == sysModules)=false /\
  ∃ xs,KT H kvs xs/\h.DictOfH (tupleKind (mixKind P w)) a xs:=zeJ ok (.inl e)
end
noncomputable def DGet (H:Hp) (a:Addr) (y:V) (r:Option V):Prop :=
 (∃ kvs k,Rd H a (.dK kvs)/\y=kV k/\r=valV kvs k)\/∃ kvs k b,Rd H a (.dT kvs)/\y = .ref b/\H b=some (.tup (k.map kV))/\r=valV kvs k
noncomputable def DPut (H:Hp) (a:Addr) (y v:V) (H':Hp):Prop :=
 (∃ kvs k,H a=some (.dK kvs)/\y=kV k/\kvs.length < sizeLine/\H'=upd H a (.dK (putK kvs k v))) \/
 ∃ kvs k b,H a=some (.dT kvs)/\y = .ref b/\H b=some (.tup (k.map kV))/\kvs.length < sizeLine/\H'=upd H a (.dT (putK kvs k v))
theorem DGet.k {H:Hp} {a:Addr} {kvs:List (Key×V)} {k:Key} (e:H a=some (.dK kvs)):DGet H a (kV k) (valV kvs k) := .inl ⟨kvs,k,.inl e,rfl,rfl⟩
theorem DGet.t {H:Hp} {a b:Addr} {kvs:List (List Key×V)} {k:List Key} (e:H a=some (.dT kvs)) (eb:H b=some (.tup (k.map kV))):DGet H a (.ref b) (valV kvs k) := .inr ⟨kvs,k,b,.inl e,rfl,eb,rfl⟩
theorem DPut.k {H:Hp} {a:Addr} {kvs:List (Key×V)} {k:Key} {v:V} (e:H a=some (.dK kvs)) (hl:kvs.length < sizeLine):DPut H a (kV k) v (upd H a (.dK (putK kvs k v))) := .inl ⟨kvs,k,e,rfl,hl,rfl⟩
theorem DPut.t {H:Hp} {a b:Addr} {kvs:List (List Key×V)} {k:List Key} {v:V} (e:H a=some (.dT kvs)) (eb:H b=some (.tup (k.map kV))) (hl:kvs.length < sizeLine) :
  DPut H a (.ref b) v (upd H a (.dT (putK kvs k v))) := .inr ⟨kvs,k,b,e,rfl,eb,hl,rfl⟩
section
variable {X:Cx} {pins:List (Addr×Obj)} {σ : St} {H:Hp} {s:Shared} {a:Addr} {y v:V} {u r:Value} {o:Option V} {A:Around} {E:Value->Shared->Prop}
theorem Inv.big (I:Inv X pins σ H s):sysModules < s.heap.objs.size:=by
 have h:mainGlobals < s.heap.objs.size:=(I.mod.glob.keeps I.bk).lt
 exact Nat.lt_trans (by decide) h
theorem d_getItem {Q:Value->Shared->Prop} (hu:A.units + 1 < cLine) (I:Inv X pins σ H s) (g:DGet H a y (some v)) (ry:RelV y u) (h:∀ w' s',Inv X pins σ H s'->RelV v w'->Q w' s') :
  wpAny (model X.prog X.w) A (getItem (.ref a) u) Q E s:=by
 rcases g with ⟨kvs,k,e,ey,l⟩ | ⟨kvs,k,b,e,ey,eb,l⟩
 ·subst ey
  obtain ⟨z,hd,vs,rel,dd⟩:=zdK I.hok e
  obtain ⟨w',hw,rw'⟩:=RelO.some_of (v:=v) (o:=valueAt vs k) (by rw [l]; exact rel.val k)
  exact wpAny_getItem_of (zfw ry) dd.mapOf hw (h w' _ (I.tok _) rw')
 ·subst ey
  cases (show u=Value.ref b from ry)
  obtain ⟨z,hd,xs,rel,dd⟩:=zeJ I.hok e
  obtain ⟨w',hw,rw'⟩:=RelO.some_of (v:=v) (o:=(atKey xs k).map (·.2)) (by rw [l]; exact rel.val k)
  obtain ⟨p,hp,hp2⟩:=Option.map_eq_some_iff.mp hw
  refine wpAny_getItem_heap (tupleKind_room_in1 hu) (zcS I.hok eb) dd hp ?_
  rw [hp2]
  exact h w' _ (I.tok _) rw'
theorem d_in {Q:Value->Shared->Prop} (hu:A.units + 1 < cLine) (I:Inv X pins σ H s) (g:DGet H a y o) (ry:RelV y u) (h:∀ s',Inv X pins σ H s'->Q (.bool o.isSome) s') :
  wpAny (model X.prog X.w) A (compareOp .In u (.ref a)) Q E s:=by
 rcases g with ⟨kvs,k,e,ey,l⟩ | ⟨kvs,k,b,e,ey,eb,l⟩
 ·subst ey
  obtain ⟨z,hd,vs,rel,dd⟩:=zdK I.hok e
  refine wpAny_in_of (zfw ry) hd dd.mapOf ?_
  rw [<- (rel.val k).isSome_eq,<- l]
  exact h _ (I.tok _)
 ·subst ey
  cases (show u=Value.ref b from ry)
  obtain ⟨z,hd,xs,rel,dd⟩:=zeJ I.hok e
  refine wpAny_in_heap (tupleKind_room_in1 hu) (zcS I.hok eb) hd dd ?_
  have q:=(rel.val k).isSome_eq
  rw [Option.isSome_map] at q
  rw [<- q,<- l]
  exact h _ (I.tok _)
theorem d_notIn {Q:Value->Shared->Prop} (hu:A.units + 1 < cLine) (I:Inv X pins σ H s) (g:DGet H a y o) (ry:RelV y u) (h:∀ s',Inv X pins σ H s'->Q (.bool (!o.isSome)) s') :
  wpAny (model X.prog X.w) A (compareOp .NotIn u (.ref a)) Q E s:=by
 rcases g with ⟨kvs,k,e,ey,l⟩ | ⟨kvs,k,b,e,ey,eb,l⟩
 ·subst ey
  obtain ⟨z,hd,vs,rel,dd⟩:=zdK I.hok e
  refine wpAny_notIn_of (zfw ry) hd dd.mapOf ?_
  rw [<- (rel.val k).isSome_eq,<- l]
  exact h _ (I.tok _)
 ·subst ey
  cases (show u=Value.ref b from ry)
  obtain ⟨z,hd,xs,rel,dd⟩:=zeJ I.hok e
  refine wpAny_notIn_heap (tupleKind_room_in1 hu) (zcS I.hok eb) hd dd ?_
  have q:=(rel.val k).isSome_eq
  rw [Option.isSome_map] at q
  rw [<- q,<- l]
  exact h _ (I.tok _)
theorem zeL {h':Heap} {t':Nat} {ob:HO} (I:Inv X pins σ H s) (mu:Mut (H a)) (hs:Heap.SameBut a s.heap h') (he:∃ q,h'.get? a=some q) (new:ObjOk X.prog X.w (upd H a ob) h' a ob) :
  Inv X pins σ (upd H a ob) { s with heap:=h',toks:=t' } :=
 I.write (x:=a) (e:=a) mu (.inl rfl) (fun b q hb z=>(hs.2 b hb).trans z) he new
theorem zgG {P:Program} {w:World} {H':Hp} {h':Heap} {kvs:List (Key×V)} {vs:List (Key×Value)} (z:kvs.length<=sizeLine) (hd:(a == sysModules)=false) (rel:KV kvs vs) (dd:h'.DictOf (mixKind P w) a vs) :
  ObjOk P w H' h' a (.dK kvs):=⟨z,hd,vs,rel,dd⟩
theorem d_setItem {H':Hp} {Q:Unit->Shared->Prop} (hu:A.units + 1 < cLine) (I:Inv X pins σ H s) (g:DPut H a y v H') (ry:RelV y u) (rv:RelV v r) (h:∀ s',Inv X pins σ H' s'->Q () s') :
  wpAny (model X.prog X.w) A (setItem (.ref a) u r) Q E s:=by
 rcases g with ⟨kvs,k,e,ey,l,eH⟩ | ⟨kvs,k,b,e,ey,eb,l,eH⟩
 ·subst ey eH
  obtain ⟨z,hd,vs,rel,dd⟩:=dk_of I.hok e
  have hz:vs.length<=sizeLine:=by rw [<- rel.length]; exact z
  have hl:(putK kvs k v).length<=sizeLine:=by have:=zcP kvs k v; omega
  refine wpAny_setItem_pairs (hsz:=hz) (zfw ry) dd fun h' dd' hs=>h _ ?_
  have he:∃ q,h'.get? a=some q:=let ⟨q,_,_,hq,_⟩:=dd'; ⟨q,hq⟩
  exact zeL I (by rw [e]; exact True.intro) hs he (zgG hl hd (rel.put k rv) dd')
 ·subst ey eH
  cases (show u=Value.ref b from ry)
  obtain ⟨z,hd,xs,rel,dd⟩:=zg4 I.hok e
  have hz:xs.length<=sizeLine:=by rw [<- Paired.length rel]; exact z
  have hl:(putK kvs k v).length<=sizeLine:=by have:=zcP kvs k v; omega
  refine wpAny_setItem_heap (hsz:=hz) (tupleKind_room_in1 hu) (zcS I.hok eb) dd fun h' dd' hs=>h _ ?_
  obtain ⟨q,es,ep,hq,h2,h3,h4,_,h5⟩:=dd'
  refine zeL I (by rw [e]; exact True.intro) hs ⟨q,hq⟩ ⟨hl,hd,_,(rel.put k eb rv).keeps fun c ys ec => ?_,q,es,ep,hq,h2,h3,h4,h5⟩
  rw [zag (zgS ec e (fun z=>nomatch z))]
  exact ec
end
section
variable {X:Cx} {pins:List (Addr×Obj)} {σ : St} {H:Hp} {s:Shared} {a:Addr} {kvs:List (Key×V)} {k:Key} {u:Value} {A:Around} {E:Value->Shared->Prop}
theorem d_len {Q:Value->Shared->Prop} (I:Inv X pins σ H s) (e:Rd H a (.dK kvs)) (h:∀ t s',Inv X pins σ H s'->Q (.int kvs.length t) s'):wpAny (model X.prog X.w) A (call (.builtin "len") [.ref a]) Q E s:=by
 obtain ⟨z,hd,vs,rel,dd⟩:=zdK I.hok e
 refine call_len_dict hd dd (by rw [<- rel.length]; rw [sizeLine_eq] at z; omega) ?_
 rw [<- rel.length]
 exact h _ _ (I.tok _)
end
noncomputable def NoSl (i:Expr):Prop:=∀ ov iv,subscripted i false ov iv=operate [ov,iv] (getItem ov iv)
theorem subD_of {prog:Program} {w:World} {A:Around} {E:Value->Shared->Prop} {s:Shared} {env:Env} {value slice:Expr} {pos:Pos} {T id:String} {Q:Value->Shared->Prop}
  (hl:typeLookup (.type T) "__getitem__" = pure (some (.builtin id))) (hs:NoSl slice)
  (h:wpAny (model prog w) A (eval value env) (fun o s₁ => wpAny (model prog w) A (eval slice env) (fun i s₂ => s₂.TypeIs o T/\wpAny (model prog w) A (getItem o i) Q E s₂) E s₁) E s) :
  wpAny (model prog w) A (eval (.Subscript value slice pos) env) Q E s:=by
 refine Subscript_ (wpAny_mono h (fun o s₁ h₁ => wpAny_mono h₁ (fun i s₂ h₂ => ?_) fun _ _ x=>x) fun _ _ x=>x)
 obtain ⟨hT,h₂⟩:=h₂
 unfold subscriptTail
 refine wpAny_bind ?_
 rw [getitemInPython_of_ne hT.not_modules]
 refine wpAny_bind (wpAny_specialOf hT hl ?_)
 have fin:wpAny (model prog w) A (subscripted slice false o i) (fun r s₃ => wpAny (model prog w) A (letTemporaryGo value o r >>= fun _=>pure r) Q E s₃) E s₂ := by
  rw [hs o i]
  exact wpAny_operating (wpAny_mono h₂ (fun r s₃ h₃ => wpAny_bind (wpAny_letTemporaryGo (wpAny_pure h₃))) fun _ _ x=>x)
 first
  | exact wpAny_pure (wpAny_bind fin)
  | exact wpAny_bind (wpAny_pure (wpAny_bind fin))
  | exact wpAny_bind fin
theorem dict_typeIs {X:Cx} {pins:List (Addr×Obj)} {σ : St} {H:Hp} {s:Shared} {a:Addr} {y:V} {o:Option V} (I:Inv X pins σ H s) (g:DGet H a y o):s.TypeIs (.ref a) "dict" := by
 rcases g with ⟨kvs,k,e,_,_⟩ | ⟨kvs,k,b,e,_,_,_⟩
 ·obtain ⟨_,_,vs,_,dd⟩:=zdK I.hok e
  exact dd.typeIs
 ·obtain ⟨_,_,xs,_,dd⟩:=zeJ I.hok e
  exact dd.typeIs
noncomputable def tDGet (td ty:TE):TE:=fun σ H Q=>td σ H fun x H1=>ty σ H1 fun y H2=>∃ a v,x = .ref a/\DGet H2 a y (some v)/\Q v H2
noncomputable def tDIn (ty td:TE):TE:=fun σ H Q=>ty σ H fun y H1=>td σ H1 fun x H2=>∃ a o,x = .ref a/\DGet H2 a y o/\Q (.bl o.isSome) H2
noncomputable def tDNotIn (ty td:TE):TE:=fun σ H Q=>ty σ H fun y H1=>td σ H1 fun x H2=>∃ a o,x = .ref a/\DGet H2 a y o/\Q (.bl (!o.isSome)) H2
noncomputable def sDPut (td ty tv:TE):TS:=fun D σ H=>tv σ H fun v H1=>td σ H1 fun x H2=>ty σ H2 fun y H3=>∃ a H4,x = .ref a/\DPut H3 a y v H4/\D.nx σ H4
section
variable {X:Cx} {o i e value:Expr} {pos pos' tpos:Pos} {td ty tv:TE}
theorem zck (hu:X.A.units + 1 < cLine) (ho:PE X o td) (hi:PE X i ty) (hs:NoSl i):PE X (.Subscript o i pos) (tDGet td ty):=by
 intro pins s σ H Q I h
 refine subD_of PySem.F.slot_dict_getitem.lookup hs (thnE (ho pins s σ H _ I h) fun u s1 x H1 I1 rx q1=>thnE (hi pins s1 σ H1 _ I1 q1) fun iv s2 y H2 I2 ry ⟨a,v,ex,g,q2⟩ => ?_)
 subst ex
 obtain rfl:u=Value.ref a:=rx
 exact ⟨dict_typeIs I2 g,d_getItem hu I2 g ry fun w' s3 I3 rw'=>⟨v,H2,I3,rw',q2⟩⟩
theorem zfk (hu:X.A.units + 1 < cLine) (hi:PE X i ty) (ho:PE X o td):PC X .In i o (tDIn ty td):=by
 intro pins s σ H Q I h
 refine thnE (hi pins s σ H _ I h) fun iv s1 y H1 I1 ry q1=>thnE (ho pins s1 σ H1 _ I1 q1) fun u s2 x H2 I2 rx ⟨a,ov,ex,g,q2⟩ => ?_
 subst ex
 obtain rfl:u=Value.ref a:=rx
 exact d_in hu I2 g ry fun s3 I3=>⟨.bl ov.isSome,H2,I3,rfl,q2⟩
theorem zd2 (hu:X.A.units + 1 < cLine) (hi:PE X i ty) (ho:PE X o td):PC X .NotIn i o (tDNotIn ty td):=by
 intro pins s σ H Q I h
 refine thnE (hi pins s σ H _ I h) fun iv s1 y H1 I1 ry q1=>thnE (ho pins s1 σ H1 _ I1 q1) fun u s2 x H2 I2 rx ⟨a,ov,ex,g,q2⟩ => ?_
 subst ex
 obtain rfl:u=Value.ref a:=rx
 exact d_notIn hu I2 g ry fun s3 I3=>⟨.bl (!ov.isSome),H2,I3,rfl,q2⟩
theorem zdw (hu:X.A.units + 1 < cLine) (ho:PE X o td) (hi:PE X i ty) (hv:PE X value tv) (hs:swapsWith value (some (.Subscript o i pos')) pos.line X.env=pure false) :
  PS X (.Assign [.Subscript o i pos'] value pos) (sDPut td ty tv):=by
 intro pins s σ H D I h
 refine wpAny_Assign_Subscript (thnE (hv pins s σ H _ I h) fun r s1 v H1 I1 rv q1=>thnE (ho pins s1 σ H1 _ I1 q1) fun u s2 x H2 I2 rx q2=>thnE (hi pins s2 σ H2 _ I2 q2) fun iv s3 y H3 I3 ry ⟨a,H4,ex,g,q3⟩ => ?_) hs
 subst ex
 obtain rfl:u=Value.ref a:=rx
 exact d_setItem hu I3 g ry rv fun s4 I4=>⟨σ,H4,I4,q3⟩
end
theorem dk_empty {P:Program} {w:World} {H:Hp} (h:Heap) (hb:sysModules < h.objs.size):ObjOk P w H (h.push { cls := .type "dict",data := .dict #[] }) h.objs.size (.dK []) :=
 ⟨Nat.zero_le _,beq_eq_false_iff_ne.mpr (Ne.symm (Nat.ne_of_lt hb)),[],.nil,Heap.DictOf.new h⟩
theorem zfq {P:Program} {w:World} {H:Hp} (h:Heap) (hb:sysModules < h.objs.size):ObjOk P w H (h.push { cls := .type "dict",data := .dict #[] }) h.objs.size (.dT []) :=
 ⟨Nat.zero_le _,beq_eq_false_iff_ne.mpr (Ne.symm (Nat.ne_of_lt hb)),[],.nil,_,#[],0,Heap.get?_push_size _ rfl,⟨rfl,rfl,rfl⟩,rfl,rfl,List.nodup_nil⟩
noncomputable def tDNewK:TE:=fun _ H Q=>∀ p,H p=none->Q (.ref p) (upd H p (.dK []))
noncomputable def tDNewT:TE:=fun _ H Q=>∀ p,H p=none->Q (.ref p) (upd H p (.dT []))
section
variable {X:Cx} {pos:Pos}
theorem pe_dnewK:PE X (.Dict [] [] pos) tDNewK:=fun pins s σ H Q I h =>
 wpAny_Dict_empty ⟨.ref s.heap.objs.size,_,I.laid (a:=s.heap.objs.size) (o := .dK []) (t':=s.toks) (fun _ _ q=>Heap.get?_push_of_some _ q) (Nat.le_refl _) (dk_empty s.heap I.big),rfl,h _ (I.hok.fresh (Nat.le_refl _))⟩
theorem zdy:PE X (.Dict [] [] pos) tDNewT:=fun pins s σ H Q I h =>
 wpAny_Dict_empty ⟨.ref s.heap.objs.size,_,I.laid (a:=s.heap.objs.size) (o := .dT []) (t':=s.toks) (fun _ _ q=>Heap.get?_push_of_some _ q) (Nat.le_refl _) (zfq s.heap I.big),rfl,h _ (I.hok.fresh (Nat.le_refl _))⟩
end
structure M2 (X:Cx) (o:Expr) (m:Str) (apos:Pos) (e f:Expr) (cpos:Pos):Prop where
 base:attributeBase o m X.env (eval o X.env)=eval o X.env
 few:((backTo cpos (starEach [e,f] X.env)).all (fun x => !x.1) && (backToKw cpos (keywordEach [] X.env)).all (fun x=>x.1.isSome)
  && decide (([e,f]:List Expr).length + ([]:List Keyword).length + (if ([]:List Keyword).isEmpty then 0 else 1) < 30))=true
 line:(apos.endLine == cpos.line)=true
 trees:backTo cpos (starEach [e,f] X.env) = [(false,eval e X.env),(false,eval f X.env)]
noncomputable def IsD (H:Hp) (a:Addr):Prop:=(∃ kvs,Rd H a (.dK kvs))\/∃ kvs,Rd H a (.dT kvs)
theorem isD_at {X:Cx} {pins:List (Addr×Obj)} {σ : St} {H:Hp} {s:Shared} {a:Addr} (I:Inv X pins σ H s) (d:IsD H a) :
  s.TypeIs (.ref a) "dict" /\ (∀ b,Value.ref a = .ref b->∃ ob,s.heap.get? b=some ob/\ob.dict=none)/\(a == sysModules)=false:=by
 rcases d with ⟨kvs,e⟩ | ⟨kvs,e⟩
 ·obtain ⟨_,hd,vs,_,dd⟩:=zdK I.hok e
  refine ⟨dd.typeIs,fun b q => ?_,hd⟩
  cases q
  obtain ⟨ob,_,_,h1,h2,_⟩:=dd
  exact ⟨ob,h1,h2.2.1⟩
 ·obtain ⟨_,hd,xs,_,dd⟩:=zeJ I.hok e
  refine ⟨dd.typeIs,fun b q => ?_,hd⟩
  cases q
  obtain ⟨ob,_,_,h1,h2,_⟩:=dd
  exact ⟨ob,h1,h2.2.1⟩
section
variable {X:Cx} {pins:List (Addr×Obj)} {σ : St} {H:Hp} {s:Shared} {a:Addr} {y d:V} {u r:Value} {o:Option V} {A:Around} {E:Value->Shared->Prop}
theorem d_get2 {Q:Value->Shared->Prop} (hu:A.units + 1 < cLine) (I:Inv X pins σ H s) (g:DGet H a y o) (ry:RelV y u) (rd:RelV d r) (h:∀ w' s',Inv X pins σ H s'->RelV (o.getD d) w'->Q w' s') :
  wpAny (model X.prog X.w) A (call (.builtin "dict.get") [.ref a,u,r]) Q E s:=by
 rcases g with ⟨kvs,k,e,ey,l⟩ | ⟨kvs,k,b,e,ey,eb,l⟩
 ·subst ey
  obtain ⟨z,hd,vs,rel,dd⟩:=zdK I.hok e
  refine call_meetsIn PySem.F.slot_dict_get dd.typeIs PySem.F.entry_dict_get (PySem.F.args_dict_get_3 _ _ _) (meets_dict_get_default (mixKind X.prog X.w) a (zfw ry) hd r) ⟨_,dd.mapOf,h _ _ (I.tok _) ?_⟩
  rw [l]
  exact (rel.val k).getD rd
 ·subst ey
  cases (show u=Value.ref b from ry)
  obtain ⟨z,hd,xs,rel,dd⟩:=zeJ I.hok e
  refine call_meetsIn PySem.F.slot_dict_get dd.typeIs PySem.F.entry_dict_get (PySem.F.args_dict_get_3 _ _ _) (meetsH_dict_get_default (tupleKind (mixKind X.prog X.w)) a b hd r) ⟨tupleKind_room_in1 hu,k,xs,zcS I.hok eb,dd,h _ _ (I.tok _) ?_⟩
  rw [l]
  exact (rel.val k).getD rd
end
noncomputable def tDGet2 (td ty tx:TE):TE:=fun σ H Q=>td σ H fun x H1=>∃ a,x = .ref a/\IsD H1 a/\ty σ H1 fun y H2=>tx σ H2 fun z H3=>∃ o,DGet H3 a y o/\Q (o.getD z) H3
section
variable {X:Cx} {o e f:Expr} {apos cpos:Pos} {td ty tx:TE}
theorem zfi (hu:X.A.units + 1 < cLine) (ho:PE X o td) (he:PE X e ty) (hf:PE X f tx) (m:M2 X o "get" apos e f cpos):PE X (.Call (.Attribute o "get" apos) [e,f] [] cpos) (tDGet2 td ty tx):=by
 intro pins s σ H Q I h
 refine wpAny_Call_method m.base m.few m.line PySem.F.plainAttrs_dict PySem.F.slot_dict_get PySem.F.type_dict_get (thnE (ho pins s σ H _ I h) fun u s1 x H1 I1 rx ⟨a,ex,d,q1⟩ => ?_)
 subst ex
 obtain rfl:u=Value.ref a:=rx
 obtain ⟨t1,t2,_⟩:=isD_at I1 d
 refine ⟨t1,t2,?_⟩
 rw [m.trees]
 refine Calls.callWith_builtin rfl (Calls.evalArgs_plain (Calls.spliced_cons (thnE (he pins s1 σ H1 _ I1 q1) fun iv s2 y H2 I2 ry q2 =>
  Calls.spliced_cons (thnE (hf pins s2 σ H2 _ I2 q2) fun fv s3 z H3 I3 rz ⟨ov,g,q3⟩=>Calls.spliced_nil ?_))))
 exact d_get2 hu I3 g ry rz fun w' s4 I4 rw'=>⟨_,H3,I4,rw',q3⟩
end
section
variable {X:Cx} {pins:List (Addr×Obj)} {σ : St} {H:Hp} {s:Shared} {a:Addr} {kvs:List (Key×V)} {A:Around} {E:Value->Shared->Prop}
theorem d_copyOf {Q:Value->Shared->Prop} (I:Inv X pins σ H s) (e:Rd H a (.dK kvs)) (h:∀ p s',H p=none->Inv X pins σ (upd H p (.dK kvs)) s'->Q (.ref p) s'):wpAny (model X.prog X.w) A (call (.type "dict") [.ref a]) Q E s:=by
 obtain ⟨z,hd,vs,rel,dd⟩:=zdK I.hok e
 refine kt_call_dict hd dd (by rw [<- rel.length]; exact z) fun h' dd' hs => ?_
 refine h _ _ (I.hok.fresh (Nat.le_refl _)) (I.laid (a:=s.heap.objs.size) (o := .dK kvs) (t':=s.toks) (fun b q hq => ?_) (Nat.le_refl _) (zgG z (beq_eq_false_iff_ne.mpr (Ne.symm (Nat.ne_of_lt I.big))) rel dd'))
 exact (hs.2 b (Nat.ne_of_lt (Heap.lt_size hq))).trans (Heap.get?_push_of_some _ hq)
end
section
variable {X:Cx} {pins:List (Addr×Obj)} {σ : St} {H:Hp} {s:Shared} {a:Addr} {y:V} {u:Value} {A:Around} {E:Value->Shared->Prop}
end
end L2
namespace Att
open PySem PySem.W PySem.Calls PyProof.Rows
theorem ints_of_wellAll {P:Params} {h:Heap}:∀ (ns:List Int) (vs:List Value),WellAll P h vs (ns.map WData.int)->IntsAre vs ns:=by
 intro ns
 induction ns with
 | nil =>
  intro vs w
  rw [List.map_nil] at w
  cases w
  exact .nil
 | cons n ns ih =>
  intro vs w
  rw [List.map_cons] at w
  cases w with
  | cons a b =>
   cases a
   exact .cons _ _ (ih _ b)
theorem script_of {l:OpenLaw} {n:Nat} (hn:l.most=some n) {P:Params} {h:Heap} {args:List WData} {vals:List Value}
  (hpre:l.row.toRowW.claim.pre args=true) (hwl:WellAll P h vals args) :
  ∃ a vs ns,vals = [Value.ref a]/\args = [WData.list (ns.map WData.int)]/\h.get? a=some { cls := .type "list",data := .seq vs.toArray }/\IntsAre vs ns/\ns.length<=n:=by
 have hsh:WShape.hasAll [] args [.list .int]=true:=(pre_splitW hpre).1
 have hc:l.pre.holds [] { args:=args }=true:=(pre_splitW hpre).2
 obtain ⟨d,r,rfl,h1,h2⟩:=hasAllW_cons hsh
 obtain rfl:=hasAllW_nil h2
 obtain ⟨xs,rfl,h3⟩:=hasW_list h1
 obtain ⟨ns,rfl⟩:=items_int h3
 have hlen:ns.length<=n:=by
  unfold OpenLaw.pre at hc
  have h4:(WTm.not (.lt (.lit (.int (n:Int))) (.len (.arg 0)))).holds [] { args := [.list (ns.map .int)] }=true:=by
   have h4:=(holds_andW hc).1
   rw [hn] at h4
   exact h4
  have h5:=condW_of h4 (w_not (w_lt w_lit (w_len_list (w_arg rfl))))
  rw [List.length_map] at h5
  refine Nat.le_of_not_lt fun q => ?_
  have q':(n:Int) < ((ns.length:Nat):Int):=by omega
  first
   | (rw [decide_eq_true q'] at h5; exact absurd h5 (by decide))
   | (simp at h5; omega)
 cases hwl with
 | cons w1 w2 =>
  cases w2
  cases w1 with
  | list ho hall=>exact ⟨_,_,ns,rfl,rfl,ho,ints_of_wellAll ns _ hall,hlen⟩
theorem post_true (l:OpenLaw) (args:List WData):l.row.toRowW.claim.post args (.bool true) args=true :=
 postW_of (r:=l.row.toRowW) (X:=(true == true))
  (show WShape.has [] (.bool true) .bool=true by first | rfl | decide | simp [WShape.has,WShape.arms,WShape.armsAll])
  (show (WTm.eq .res (.lit (.bool true))).value [] { args:=args,res:=some (.bool true),after:=args }=some (.bool (true == true)) from w_eq_bool (w_res rfl) w_lit) rfl
theorem attach_call {l:OpenLaw} {n:Nat} {q:Program} {loose:List Str} {XP:(Str->Option Value)->Heap->Prop} {YP:World->Heap->Prop} {d:DefRec}
  (hn:l.most=some n) (hdf:d.params.defaults = [])
  (call:∀ (w:World) (s₀ s₁ : Shared) (mg mb:Str->Option Value) (fa:Addr) (o:Obj) (pm cd doc:Value) (a:Addr) (vs:List Value) (ns:List Int),
   Ground q loose [] XP w s₀ mg mb s₁.heap->YP w s₁.heap ->
   s₁.heap.get? fa=some o->o.data = .func (docDef d.name d.params d.body d.scope pm cd doc)->s₁.heap.CodeRec cd d.name->mg d.name=some (.ref fa) ->
   s₁.heap.get? a=some { cls := .type "list",data := .seq vs.toArray }->IntsAre vs ns->ns.length<=n->s₁.gens = #[] ->
   codeAny (model l.prog w) callerA (.call (.ref fa) ⟨[.ref a],[]⟩) (fun r s'=>r = .ok (.ret (.bool true))/\OldK s₁.heap s'.heap/\s'.os=s₁.os/\AllBare s'.gens) s₁) :
  WalkO q loose XP YP l.row.toRowW d [] (fun f vs=>PySem.call f vs):=by
 intro w s₀ s₁ mg mb G Y fa o pm cd doc dV kV ho hd hcd hD hmg hg args vals as hpre hlay hrd hwl hlo
 obtain rfl:dV = .none:=Dflts.none hD hdf
 obtain rfl:kV = .none:=Dflts.noKw hD
 obtain ⟨a,vs,ns,rfl,rfl,hobj,hints,hlen⟩:=script_of hn hpre hwl
 refine enter_call (codeAny_mono (call w s₀ s₁ mg mb fa o pm cd doc a vs ns G Y ho (fd_plain hd) hcd hmg hobj hints hlen hg) fun r s' hq => ?_)
 obtain ⟨rfl,h2,h3,h4⟩:=hq
 exact ⟨.inl ⟨.bool true,.bool true,[],rfl,fun _=>rfl,.bool true,post_true l _,fun _=>⟨List.Pairwise.nil,fun _ hm=>(nomatch hm)⟩⟩,h2,h3,h4⟩
section
variable {prog:Program} {w:World} {A:Around} {E:Value->Shared->Prop} {s:Shared} {K:Frag}
noncomputable def ledger (h:Heap) (L d:Addr):List (Addr×Obj):=(List.range h.objs.size).filterMap fun a=>if a=L\/a=d then none else (h.get? a).map fun o=>(a,o)
end
end Att
namespace L2
open PySem PySem.Spec PyProof.Rows
theorem zcF:∀ {vs:List Value} {ns:List Int},IntsAre vs ns->Vals (ns.map V.int) vs
 | _,_,.nil => .nil
 | _,_,.cons n t h => .cons ⟨t,rfl⟩ (zcF h)
noncomputable def Only (H:Hp):Prop:=∀ b,H b=none\/∃ o xs,H b=some (.frz o (.lst xs))
theorem law_call {P:Program} {w:World} {K:W.Frag} {mg mb:Str->Option Value} {CX:CXT} {k:Nat} {fa a:Addr} {fd:FuncData} {x:Str} {sp:Sp} {s₁ : Shared} {vs:List Value} {ns:List Int}
  (KX:K.In s₁.heap) (hns:s₁.heap.Ns mainGlobals mg) (hb:s₁.heap.Ns builtinsNs mb) (hbb:∀ x:Str,x ≠ "__name__" -> mb x=bootBuiltins x) (hlim:s₁.heap.NoLimit) (hg:s₁.gens = #[])
  (ha:s₁.heap.get? a=some { cls := .type "list",data := .seq vs.toArray }) (hi:IntsAre vs ns) (hl:ns.length<=sizeLine) (hr:Room k callerA)
  (F:∀ base:Heap,K.In base->base.Ns mainGlobals mg->FnOk P w K mg base CX k fa fd [x] sp) (hbind:∀ (s:Shared) (u:Value),BindsTo s fd ⟨[u],[]⟩ [(x,u)])
  (hsp:∀ H:Hp,Only H->SqL K H a (ns.map V.int)->sp [.ref a] H (fun v _=>v = .bl true) fun _ _ _=>False)
  (hCX:∀ H e s',CX [] H s₁ (fun _ _ _=>False) e s'->False) :
  codeAny (model P w) callerA (.call (.ref fa) ⟨[.ref a],[]⟩) (fun r s'=>r = .ok (.ret (.bool true))/\OldK s₁.heap s'.heap/\s'.os=s₁.os/\AllBare s'.gens) s₁ := by
 have rv:=zcF hi
 have lenV:=hi.length
 have core:∀ H:Hp,Only H->SqL K H a (ns.map V.int)->HOk P w H s₁.heap->(∀ b,H b≠none->b=a)->(H a≠none->K.lookup a=none) ->
   codeAny (model P w) callerA (.call (.ref fa) ⟨[.ref a],[]⟩) (fun r s'=>r = .ok (.ret (.bool true))/\OldK s₁.heap s'.heap/\s'.os=s₁.os/\AllBare s'.gens) s₁ := by
  intro H hO hS hok hA hK
  have base_of:∀ {b:Addr} {o:Obj},s₁.heap.get? b=some o->H b=none->(hidT s₁.heap H).get? b=some o:=fun e n=>hidT_get e n
  have noA:∀ {b:Addr} {o:Obj} {es:Array DictEntry} {ep:Nat},s₁.heap.get? b=some o->o.data = .dict es ep->H b=none:=fun {b o es ep} e d=>by
   cases q:H b with
   | none=>rfl
   | some u =>
    have e':b=a:=hA b (by rw [q]; simp)
    subst e'
    rw [ha] at e; cases e
    have d':Data.seq vs.toArray _=Data.dict es ep:=d
    cases d'
  have nsK:∀ {b:Addr} {m:Str->Option Value},s₁.heap.Ns b m->(hidT s₁.heap H).Ns b m:=fun {b m} ⟨o,es,ep,e,d,r⟩=>⟨o,es,ep,base_of e (noA e d),d,r⟩
  have hKb:K.In (hidT s₁.heap H):=fun b o e=>base_of (KX b o e) (by
   cases q:H b with
   | none=>rfl
   | some u =>
    have e':b=a:=hA b (by rw [q]; simp)
    subst e'
    rw [hK (by rw [q]; simp)] at e; cases e)
  have hM:Mod K mg (hidT s₁.heap H):=⟨hKb,nsK hns,⟨mb,nsK hb,hbb⟩,let ⟨mc,h1,h2⟩:=hlim; ⟨mc,nsK h1,h2⟩⟩
  have e0:Env0 P w K mg (hidT s₁.heap H) callerA [] s₁ H:=⟨rfl,hM,fun b o e=>of_hidT e,Nat.le_of_eq (hidT_size _ _),trivial,fun b hb=>absurd (show b∈([]:List Addr) from hb) (by simp),hok,.of_eq hg⟩
  refine codeAny_mono ((F _ hKb (nsK hns)).run callerA [] s₁ H ⟨[.ref a],[]⟩ [.ref a] [.ref a] _ _ hr e0 (hbind s₁ (.ref a)) (.cons rfl .nil) (hsp H hO hS)) fun r s' h => ?_
  cases r with
  | error e=>exact (hCX H e s' h).elim
  | ok fl =>
   cases fl with
   | next=>exact False.elim h
   | brk=>exact False.elim h
   | cont=>exact False.elim h
   | ret u =>
    obtain ⟨v,H',os,bare,un,hok',r',q⟩:=h
    have q':v = .bl true:=q
    subst q'
    obtain rfl:u=Value.bool true:=r'
    refine ⟨rfl,OldK.of_keep fun b o e => ?_,os,bare⟩
    cases q:H b with
    | none=>exact un.keep b o e q (by intro z; exact absurd (show b∈([]:List Addr) from z) (by simp)) (by simp)
    | some u =>
     rcases hO b with z | ⟨ob,xs,z⟩
     ·rw [q] at z; cases z
     ·have z2:=un.frzs b ob _ z
      obtain ⟨e1,_⟩:=hok b _ z
      obtain ⟨e2,_⟩:=hok' b _ z2
      rw [e] at e1; cases e1
      exact e2
 cases hk:K.lookup a with
 | some o =>
  have e:=KX a o hk
  rw [ha] at e
  cases e
  refine core (fun _=>none) (fun _ => .inl rfl) (.inr ⟨_,vs.toArray,_,hk,rfl,rfl,rfl,by rw [List.size_toArray,lenV]; exact hl,by simpa using rv⟩) (fun b u z=>by have z':(none:Option HO)=some u:=z; cases z') (fun b z=>absurd rfl z) fun z=>absurd rfl z
 | none =>
  refine core (fun b=>if b=a then some (.frz { cls := .type "list",data := .seq vs.toArray } (.lst (ns.map V.int))) else none) (fun b => ?_) (.inl (.inr ⟨{ cls := .type "list",data := .seq vs.toArray },if_pos rfl⟩)) (fun b u z => ?_) (fun b z => ?_) fun _=>hk
  ·by_cases hb:b=a
   ·exact .inr ⟨_,_,if_pos hb⟩
   ·exact .inl (if_neg hb)
  ·by_cases hb:b=a
   ·have z':=(if_pos hb).symm.trans z
    cases z'
    subst hb
    exact ⟨ha,by rw [List.length_map]; exact hl,vs,_,rv,ha⟩
   ·have z':=(if_neg hb).symm.trans z
    cases z'
  ·by_cases hb:b=a
   ·exact hb
   ·exact absurd (if_neg hb) z
theorem walk_of {l:PySem.W.OpenLaw} {n k:Nat} {q:Program} {loose:List Str} {XP:(Str->Option Value)->Heap->Prop} {YP:World->Heap->Prop} {d:DefRec} {K:Params->W.Frag} {CX:World->CXT} {sp:World->Sp} {x:Str}
  (hn:l.most=some n) (hn2:n<=sizeLine) (hdf:d.params.defaults = []) (hr:Room k callerA)
  (hY:∀ (w:World) (h:Heap),YP w h->(K w.params).In h)
  (F:∀ (w:World) (mg:Str->Option Value) (fa:Addr) (h:Heap),(K w.params).In h->h.Ns mainGlobals mg->mg d.name=some (.ref fa) ->
   ∃ fd:FuncData,(∀ (s:Shared) (u:Value),BindsTo s fd ⟨[u],[]⟩ [(x,u)]) /\
    ∀ base:Heap,(K w.params).In base->base.Ns mainGlobals mg->FnOk l.prog w (K w.params) mg base (CX w) k fa fd [x] (sp w))
  (hsp:∀ (w:World) (H:Hp) (a:Addr) (ns:List Int),ns.length<=n->Only H->SqL (K w.params) H a (ns.map V.int)->sp w [.ref a] H (fun v _=>v = .bl true) fun _ _ _=>False)
  (hCX:∀ (w:World) (H:Hp) (s:Shared) (e:Value) (s':Shared),CX w [] H s (fun _ _ _=>False) e s'->False) :
  PySem.W.WalkO q loose XP YP l.row.toRowW d [] (fun f vs=>PySem.call f vs):=by
 refine Att.attach_call hn hdf fun w s₀ s₁ mg mb fa o pm cd doc a vs ns G Y ho hd hcd hmg hobj hints hlen hg => ?_
 have KX:=hY w _ Y
 obtain ⟨fd,hb,hF⟩:=F w mg fa _ KX G.T.g hmg
 exact law_call KX G.T.g G.T.b G.T.builtins G.T.nolimit hg hobj hints (Nat.le_trans hlen hn2) hr hF hb (fun H hO hS=>hsp w H a ns hlen hO hS) fun H e s'=>hCX w H s₁ e s'
noncomputable def inClass (s:Stmt) (j:Nat):Stmt:=match s with
 | .ClassDef _ _ _ body _ _ _ _ _ _ _=>body.getD j (.Pass ⟨0,0,0,0⟩)
 | _ => .Pass ⟨0,0,0,0⟩
noncomputable def defArgs (s:Stmt):Arguments:=match s with
 | .FunctionDef _ a _ _ _ _ _ _ _ _=>a
 | _=>{ posonlyargs := [],args := [],vararg:=none,kwonlyargs := [],kw_defaults := [],kwarg:=none,defaults := [] }
noncomputable def defBody (s:Stmt):List Stmt:=match s with
 | .FunctionDef _ _ b _ _ _ _ _ _ _=>b
 | _ => []
noncomputable def defScope (s:Stmt):Scope:=match s with
 | .FunctionDef _ _ _ _ _ _ sc _ _ _=>sc
 | _=>{ kind := .function,names := [],isGenerator:=false,isCoroutine:=false }
noncomputable abbrev CX0:CXT:=fun _ _ _ _ _ _=>False
noncomputable abbrev E0:XK:=fun _ _ _=>False
theorem zc1 {X:Cx}:Passes CX0 X E0:=fun _ _ _ _ _ _ _ h=>h.elim
structure Fun (K:W.Frag) (x qual:Str) (st:Stmt) (f:Addr) (fd:FuncData):Prop where
 ex:∃ (oc:Value) (od:Option Addr) (kV doc pm:Value) (an:Option Addr) (cdv ct:Value) (osl:Array (Option Value)),
  fd=PySem.W.fnOf x qual (defArgs st) (defBody st) (defScope st) .none kV doc pm an cdv ct/\K.lookup f=some ⟨oc,od,.func fd,osl⟩/\PySem.W.codeIn K cdv qual=true
 kp:PySem.W.keepIn K (.ref f)=true
section
variable {P:Program} {w:World} {K:W.Frag} {mg:Str->Option Value} {base:Heap}
theorem Fun.ok {x qual:Str} {st:Stmt} {f:Addr} {fd:FuncData} {N ps:List Str} {k:Nat} {sp:Sp} (F:Fun K x qual st f fd) (S:FnScope N ps (defScope st)) (len:∀ vs H Q E,sp vs H Q E->vs.length=ps.length)
  (hbody:∀ (cdv:Value) (A:Around) (outer:List Env) (s:Shared) (H:Hp) (vs:List V) (Q:VK) (E:XK),Room k (A.deeper (envOfC qual (defScope st) s.heap.objs.size f cdv))->sp vs H Q E ->
   ∃ t,PSs (cxOf CX0 P w K mg base N qual (defScope st) f cdv A outer s H E).nox (defBody st) t/\t { nx:=fun _ H'=>Q .non H',rt:=Q } (start N vs) H):FnOk P w K mg base CX0 (k + 1) f fd ps sp:=by
 obtain ⟨oc,od,kV,doc,pm,an,cdv,ct,osl,rfl,lk,hcd⟩:=F.ex
 refine zg2 lk hcd S len fun A outer s H vs Q E hr hsp => ?_
 obtain ⟨t,h,q⟩:=hbody cdv A outer s H vs Q E hr hsp
 exact ⟨t,h.nox,q⟩
theorem Fun.binds {x qual:Str} {st:Stmt} {f:Addr} {fd:FuncData} {ps:List Str} (F:Fun K x qual st f fd)
  (h:∀ (kV doc pm:Value) (an:Option Addr) (cdv ct:Value) (us:List Value),us.length=ps.length->bindArgs (PySem.W.fnOf x qual (defArgs st) (defBody st) (defScope st) .none kV doc pm an cdv ct) ⟨us,[]⟩=pure (ps.zip us)):Binds K fd ps []:=by
 obtain ⟨oc,od,kV,doc,pm,an,cdv,ct,osl,rfl,lk,hcd⟩:=F.ex
 exact .all (h kV doc pm an cdv ct)
theorem zf7 {x qual:Str} {st:Stmt} {f:Addr} {oc:Value} {od an:Option Addr} {osl:Array (Option Value)} {kV doc pm cdv ct:Value} (l:K.lookup f=some ⟨oc,od,.func (PySem.W.fnOf x qual (defArgs st) (defBody st) (defScope st) .none kV doc pm an cdv ct),osl⟩)
  (c:PySem.W.codeIn K cdv qual=true) (k:PySem.W.keepIn K (.ref f)=true):Fun K x qual st f (PySem.W.fnOf x qual (defArgs st) (defBody st) (defScope st) .none kV doc pm an cdv ct):=⟨⟨oc,od,kV,doc,pm,an,cdv,ct,osl,rfl,l,c⟩,k⟩
end
theorem zcx {A:Around} {k:Nat} (hr:Room k A):A.units + 1 < cLine:=Nat.lt_of_le_of_lt (Nat.add_le_add_left (by decide:1<=64) _) hr.units
section
variable {X:Cx}
theorem pv (i:Nat) {x:Str} {pos:Pos} (hN:X.N[i]?=some x:=by rfl) (hv:Vis X.env.scope x:=by first | exact Or.inl rfl | exact Or.inr (Or.inl rfl) | exact Or.inr (Or.inr rfl)) (hd:(x == ("__debug__" : Str))=false:=by decide)
  (hcd:(x == ("__classdict__" : Str))=false:=by decide):PE X (.Name x pos) (tVar i):=pe_var hN hv hd hcd
theorem call_lenD:CallR X (.builtin "len") (fun xs H Q=>∃ a kvs,xs = [V.ref a]/\H a=some (.dK kvs)/\Q (.int kvs.length) H):=by
 intro pins s σ H xs us Q I r h
 obtain ⟨a,kvs,rfl,ha,q⟩:=h
 obtain ⟨u,rfl,ru⟩:=zb5 r
 cases ru
 exact d_len I (.inl ha) fun t s' I'=>⟨.int kvs.length,H,I',⟨t,rfl⟩,q⟩
end
theorem iteF {A B:Prop} (h:B):if false=true then A else B:=by
 rw [if_neg Bool.false_ne_true]
 exact h
theorem iteT {A B:Prop} (h:A):if true=true then A else B:=by
 rw [if_pos rfl]
 exact h
theorem ite2 {c A B:Prop} [Decidable c] (h1:c->A) (h2:¬ c->B):if c then A else B:=by
 by_cases h:c
 ·rw [if_pos h]
  exact h1 h
 ·rw [if_neg h]
  exact h2 h
noncomputable def Same (H H':Hp):Prop:=∀ b o,H b=some o->H' b=some o
theorem Same.refl (H:Hp):Same H H:=fun _ _ h=>h
theorem Same.trans {H H1 H2:Hp} (a:Same H H1) (b:Same H1 H2):Same H H2:=fun c o h=>b c o (a c o h)
theorem Same.free {H H':Hp} (e:Same H H') {l:Addr} (h:H' l=Option.none):H l=Option.none:=by
 cases q:H l with
 | none=>rfl
 | some o =>
  rw [e l o q] at h
  cases h
theorem Same.seq {K:W.Frag} {H H':Hp} {a:Addr} {xs:List V} (e:Same H H') (h:SqL K H a xs):SqL K H' a xs:=by
 rcases h with (h | ⟨o,h⟩) | h
 ·exact .inl (.inl (e _ _ h))
 ·exact .inl (.inr ⟨o,e _ _ h⟩)
 ·exact .inr h
section
variable {κ : Type} [DecidableEq κ]
theorem zfW:∀ {l:List κ} {k : κ},l.Nodup->¬ k∈l->(l ++ [k]).Nodup
 | [],k,_,_=>by simp
 | a :: r,k,h,hk=>by
  obtain ⟨h1,h2⟩:=List.nodup_cons.mp h
  show (a :: (r ++ [k])).Nodup
  refine List.nodup_cons.mpr ⟨fun m => ?_,zfW h2 fun m=>hk (List.mem_cons.mpr (Or.inr m))⟩
  rcases List.mem_append.mp m with q | q
  ·exact h1 q
  ·exact hk (List.mem_cons.mpr (Or.inl (List.mem_singleton.mp q).symm))
end
theorem zcM {κ β : Type} [BEq κ] [LawfulBEq κ] {k : κ} {v : β}:∀ {l:List (κ × β)},l.lookup k=some v->(k,v)∈l
 | [],h=>by simp at h
 | (a,b) :: r,h=>by
  rw [List.lookup_cons] at h
  cases e:k == a with
  | true =>
   rw [e] at h
   simp at h
   rw [eq_of_beq e,h]
   exact List.mem_cons_self
  | false =>
   rw [e] at h
   exact List.mem_cons_of_mem _ (zcM h)
theorem zd8 {κ β : Type} [BEq κ] [LawfulBEq κ] {k : κ} {v : β}:∀ {l:List (κ × β)},(k,v)∈l->∃ w,l.lookup k=some w
 | [],h=>by simp at h
 | (a,b) :: r,h=>by
  rw [List.lookup_cons]
  cases e:k == a with
  | true=>exact ⟨b,rfl⟩
  | false =>
   rcases List.mem_cons.mp h with h | h
   ·injection h with h1 h2
    rw [h1] at e
    simp at e
   ·exact zd8 h
theorem closure_ok {env:Env} {scope:Scope} (h:∀ x∈scope.names,x.2 = .free->∃ c,env.cells.lookup x.1=some c) :
  ∃ cl,closureFor scope env=pure cl/\(∀ x c,(x,c)∈cl->(x,NameKind.free)∈scope.names/\env.cells.lookup x=some c)/\∀ x,(x,NameKind.free)∈scope.names->∃ c,(x,c)∈cl:=by
 have all:∀ (names:List (Str×NameKind)) (acc:List (Str×Addr)),(∀ x∈names,x.2 = .free->∃ c,env.cells.lookup x.1=some c) ->
   ∃ cl:List (Str×Addr),(forIn names acc fun (x:Str×NameKind) (r:List (Str×Addr))=>(if (x.2 == NameKind.free)=true then do let c <- cellOf env x.1; pure (ForInStep.yield ((x.1,c) :: r)) else pure (ForInStep.yield r):Sem (ForInStep (List (Str×Addr)))))=pure cl /\
    (∀ x c,(x,c)∈cl->(x,c)∈acc\/((x,NameKind.free)∈names/\env.cells.lookup x=some c))/\(∀ p∈acc,p∈cl)/\∀ x,(x,NameKind.free)∈names->∃ c,(x,c)∈cl:=by
  intro names
  induction names with
  | nil=>intro acc _; exact ⟨acc,rfl,fun x c h => .inl h,fun p h=>h,fun x h=>by simp at h⟩
  | cons y r ih =>
   intro acc hy
   obtain ⟨n,k⟩:=y
   by_cases hk:k = .free
   ·subst hk
    obtain ⟨c,hc⟩:=hy (n,.free) List.mem_cons_self rfl
    obtain ⟨cl,e,h1,h2,h3⟩:=ih ((n,c) :: acc) fun x hx=>hy x (List.mem_cons_of_mem _ hx)
    refine ⟨cl,?_,fun x d hd => ?_,fun p hp=>h2 p (List.mem_cons_of_mem _ hp),fun x hx => ?_⟩
    ·rw [List.forIn_cons]
     have hcell:cellOf env n=pure c:=by unfold cellOf; rw [hc]
     simp only [beq_self_eq_true,if_true,hcell,pure_bind]
     exact e
    ·rcases h1 x d hd with q | ⟨q1,q2⟩
     ·rcases List.mem_cons.mp q with q | q
      ·injection q with q1 q2
       subst q1 q2
       exact .inr ⟨List.mem_cons_self,hc⟩
      ·exact .inl q
     ·exact .inr ⟨List.mem_cons_of_mem _ q1,q2⟩
    ·rcases List.mem_cons.mp hx with q | q
     ·injection q with q1 _
      subst q1
      exact ⟨c,h2 _ List.mem_cons_self⟩
     ·exact h3 x q
   ·obtain ⟨cl,e,h1,h2,h3⟩:=ih acc fun x hx=>hy x (List.mem_cons_of_mem _ hx)
    refine ⟨cl,?_,fun x d hd=>(h1 x d hd).imp id fun q=>⟨List.mem_cons_of_mem _ q.1,q.2⟩,h2,fun x hx => ?_⟩
    ·rw [List.forIn_cons]
     have hb:(k == NameKind.free)=false:=by simpa using hk
     simp only [hb,Bool.false_eq_true,if_false,pure_bind]
     exact e
    ·rcases List.mem_cons.mp hx with q | q
     ·injection q with _ q2
      exact absurd q2.symm hk
     ·exact h3 x q
 obtain ⟨cl,e,h1,_,h3⟩:=all scope.names [] h
 refine ⟨cl,?_,fun x c q=>(h1 x c q).resolve_left (by simp),h3⟩
 show ((forIn scope.names ([]:List (Str×Addr)) fun (x:Str×NameKind) (r:List (Str×Addr))=>(if (x.2 == NameKind.free)=true then do let c <- cellOf env x.1; pure (ForInStep.yield ((x.1,c) :: r)) else pure (ForInStep.yield r):Sem (ForInStep (List (Str×Addr))))) >>= fun r=>pure r)=pure cl
 rw [e]
 rfl
theorem zbk {env:Env}:∀ {names:List (Str×NameKind)} {x:Str},names.lookup x=some .free ->
  (names.map fun (n,k)=>if (k == NameKind.free && env.scope.kind == .function && env.kindOf n == some .cell) then (n,NameKind.cell) else (n,k)).lookup x=some .cell \/
  (names.map fun (n,k)=>if (k == NameKind.free && env.scope.kind == .function && env.kindOf n == some .cell) then (n,NameKind.cell) else (n,k)).lookup x=some .free
 | [],_,h=>by simp at h
 | (n,k) :: r,x,h=>by
  have ih := @zbk env r x
  show List.lookup x ((if (k == NameKind.free && env.scope.kind == .function && env.kindOf n == some .cell)=true then (n,NameKind.cell) else (n,k)) :: _)=_\/List.lookup x ((if (k == NameKind.free && env.scope.kind == .function && env.kindOf n == some .cell)=true then (n,NameKind.cell) else (n,k)) :: _)=_
  cases hx:x == n with
  | true =>
   simp only [List.lookup_cons,hx] at h
   cases h
   by_cases hc:(NameKind.free == NameKind.free && env.scope.kind == .function && env.kindOf n == some .cell)=true
   ·rw [if_pos hc]; simp only [List.lookup_cons,hx]; exact .inl trivial
   ·rw [if_neg hc]; simp only [List.lookup_cons,hx]; exact .inr trivial
  | false =>
   simp only [List.lookup_cons,hx] at h
   by_cases hc:(k == NameKind.free && env.scope.kind == .function && env.kindOf n == some .cell)=true
   ·rw [if_pos hc]; simp only [List.lookup_cons,hx]; exact ih h
   ·rw [if_neg hc]; simp only [List.lookup_cons,hx]; exact ih h
noncomputable def cxComp (X:Cx) (scope:Scope) (N:List Str) (cl:List (Str×Addr)) (C:Addr) (s:Shared) (H:Hp) (fp:List Addr) (pn:List (Addr×Obj)):Cx :=
 { X with N:=N,s₀ := s,H₀ := H,env:=compEnvC scope cl C X.env,outer:=X.stack,stack:=X.stack,ex:=fp,fn:=fun _=>false,pn:=pn,xe:=fun _ _=>False }
noncomputable def CapsOk (X:Cx) (scope:Scope):List (Nat×Str)->Prop
 | []=>True
 | p :: r=>(X.N[p.1]?=some p.2/\scope.names.lookup p.2=some .free/\(X.env.scope.names.lookup p.2=some .cell\/X.env.scope.names.lookup p.2=some .free))/\CapsOk X scope r
theorem CapsOk.get {X:Cx} {scope:Scope}:∀ {caps:List (Nat×Str)} {j:Nat} {p:Nat×Str},CapsOk X scope caps->caps[j]?=some p ->
  X.N[p.1]?=some p.2/\scope.names.lookup p.2=some .free/\(X.env.scope.names.lookup p.2=some .cell\/X.env.scope.names.lookup p.2=some .free)
 | [],_,_,_,h=>by simp at h
 | q :: r,0,p,h,e=>by simp at e; subst e; exact h.1
 | q :: r,j + 1,p,h,e=>CapsOk.get h.2 (by simpa using e)
noncomputable def capSt (own:List Str) (caps:List (Nat×Str)) (σ : St):St:=own.map (fun _=>none) ++ caps.map fun p=>(σ[p.1]?).join
noncomputable def CompW (J:It) (D:Addr) (σ0:St) (H1:Hp) (g:TG) (tf:TT) (te:TE) (Q:VK):Prop:=∃ W:Nat->Nat->St->Hp->Prop,
 (∃ m,W 0 m σ0 (upd H1 D (.lst [])))/\∀ i m σ' H',W i m σ' H' ->
  (J.stop i H'/\Q (.ref D) H')\/(J.go i H'/\∀ x H2,J.yld i H' x H2->g x σ' H2 fun σ2 H3=>tf σ2 H3 fun b H4 =>
   if b=true then te σ2 H4 fun v H5=>∃ ys,H5 D=some (.lst ys)/\ys.length < sizeLine/\∃ m',m' < m/\W (i + 1) m' σ2 (upd H5 D (.lst (ys ++ [v])))
   else ∃ m',m' < m/\W (i + 1) m' σ2 H4)
noncomputable def tComp (wi:TI) (own:List Str) (caps:List (Nat×Str)) (g:TG) (tf:TT) (te:TE):TE:=fun σ H Q=>wi σ H fun J H1=>∀ D,H1 D=none->CompW J D (capSt own caps σ) H1 g tf te Q
noncomputable def PTs (X:Cx) (ifs:List Expr) (t:TT):Prop :=
 ∀ (pins:List (Addr×Obj)) (s:Shared) (σ : St) (H:Hp) (Q:Bool->Hp->Prop),Inv X pins σ H s->t σ H Q->wpAny (model X.prog X.w) X.A (forIn ifs true fun c r=>if r=true then do let ok <- isTrue c X.env (eval c X.env); pure (ForInStep.yield ok) else pure (ForInStep.yield r)) (TP X pins σ Q) X.xe s
noncomputable def tTrue:TT:=fun _ H Q=>Q true H
theorem za8 {X:Cx}:PTs X [] tTrue:=fun _ _ _ H _ I h=>wpAny_tests_nil ⟨H,I,h⟩
theorem zci {X:Cx} {c:Expr} {t:TT} (h:PT X c t):PTs X [c] t:=fun pins s σ H Q I hw=>wpAny_tests_one (h pins s σ H Q I hw)
theorem comp_loop {prog:Program} {w:World} {A:Around} {R:Result->Shared->Prop} {s:Shared} {elt target iter:Expr} {ifs:List Expr} {scope:Scope} {pos:Pos} {it acc:Value} {env:Env} (I:Nat->Shared->Prop)
  (turn:∀ n s,I n s->wpAny (model prog w) A (pyNext it) (fun r s₁ => match r with
   | none=>R (.ok .next) s₁
   | some v=>wpAny (model prog w) A (letOwnedTupleGo target it v) (fun _ s₁'=>wpAny (model prog w) A (assign target env v) (fun _ s₂ =>
     wpAny (model prog w) A (forIn ifs true fun c r=>if r=true then do let ok <- isTrue c env (eval c env); pure (ForInStep.yield ok) else pure (ForInStep.yield r)) (fun ok s₃ =>
      if ok=true then wpAny (model prog w) A (eval elt env) (fun x s₄ =>
       wpAny (model prog w) A (call (.builtin "list.append") [acc,x]) (fun _ s₅ => ∃ m,m < n/\I m s₅) (fun _ _=>False) s₄) (fun _ _=>False) s₃
      else ∃ m,m < n/\I m s₃) (fun _ _=>False) s₂) (fun _ _=>False) s₁') (fun _ _=>False) s₁) (fun _ _=>False) s)
  (n:Nat) (h:I n s) :
  codeAny (model prog w) A (.compLoop (.ListComp elt [⟨target,iter,ifs,0⟩] scope pos) 0 it acc env) R s:=by
 refine codeAny_loop rfl I (fun n s hI => ?_) n h
 show wpAny _ A ((compTurn (.ListComp elt [⟨target,iter,ifs,0⟩] scope pos) 0 it acc env).onRaise (fun x=>do noteFrame x env; theTreesLotGoes x)) _ _ s
 refine wpAny_noted ?_
 rw [compTurn_list]
 refine wpAny_bind (wpAny_standAt (wpAny_bind (wpAny_mono (turn n s hI) (fun r s₁ h₁ => ?_) fun _ _ h'=>h'.elim)))
 cases r with
 | none=>exact wpAny_pure h₁
 | some v =>
  refine wpAny_bind (wpAny_mono h₁ (fun _ s₁' h₁' => ?_) fun _ _ h'=>h'.elim)
  refine wpAny_bind (wpAny_mono h₁' (fun _ s₂ h₂ => wpAny_bind (wpAny_mono h₂ (fun ok s₃ h₃ => ?_) fun _ _ h'=>h'.elim)) fun _ _ h'=>h'.elim)
  cases ok with
  | false=>exact wpAny_pure ⟨rfl,h₃⟩
  | true =>
   exact wpAny_bind (wpAny_bind (wpAny_mono h₃ (fun x s₄ h₄ => wpAny_bind (wpAny_mono h₄ (fun _ s₅ h₅ => wpAny_pure (wpAny_pure ⟨rfl,h₅⟩)) fun _ _ h'=>h'.elim)) fun _ _ h'=>h'.elim))
section
variable {X:Cx} {pins:List (Addr×Obj)} {σ : St}
theorem comp_ok {H2:Hp} {s2:Shared} {fp:List Addr} {scope:Scope} {N:List Str} {cl:List (Str×Addr)} {C:Addr} (I2:Inv X pins σ H2 s2) (f2:∀ b∈fp,FpOk X pins H2 b) (hC:s2.heap.objs.size < C)
  (hfs:∀ b∈fp,b < s2.heap.objs.size) (hkind:scope.kind = .function) (hcl:∀ x c,cl.lookup x=some c->X.env.cells.lookup x=some c)
  (hhas:∀ x,((relabel scope X.env).names.lookup x=some .cell\/(relabel scope X.env).names.lookup x=some .free)->∃ c,cl.lookup x=some c) :
  (cxComp X scope N cl C s2 H2 fp (X.pn ++ pins)).Ok where
 mod:=I2.ok.mod
 kind:=hkind
 glob:=I2.ok.glob
 blt:=I2.ok.blt
 above:=Nat.le_of_lt hC
 inj:=fun x y c h1 h2=>I2.ok.inj x y c (hcl x c h1) (hcl y c h2)
 has:=hhas
 cab:=fun _ _ h _=>by cases h
 hd:=I2.ok.hd
 frames:=I2.ok.frames
 stk := .inl rfl
 exf:=fun b hb=>⟨Nat.ne_of_lt (Nat.lt_trans (hfs b hb) hC),fun x c e=>(f2 b hb).2.2.2.2.1 x c (hcl x c e)⟩
 bs:=I2.bs
 bsz:=Nat.le_trans I2.ok.bsz I2.sz
 noex:=fun b o e hb=>by
  rcases (f2 b hb).2.2.2.1 with z | z
  ·exact I2.ok.noex b o e z
  ·exact absurd (Nat.lt_of_lt_of_le (Heap.lt_size e) (Nat.le_trans I2.ok.bsz z)) (Nat.lt_irrefl _)
 exfs:=fun b hb z=>(List.mem_cons.mp (I2.stkSub b z)).elim (f2 b hb).2.1 (f2 b hb).2.2.1
 funs:=I2.stack
 frf:=I2.stkFree
theorem comp_start {H2:Hp} {s2:Shared} {fp:List Addr} {scope:Scope} {own:List Str} {caps:List (Nat×Str)} {cl:List (Str×Addr)} {D C:Addr} {h1:Heap} {tk:Nat} {m:Str->Option Value}
  (I2:Inv X pins σ H2 s2) (f2:∀ b∈fp,FpOk X pins H2 b) (hC : @Eq Nat C (s2.heap.objs.size + 1)) (hD : @Eq Nat D s2.heap.objs.size)
  (hfs:∀ b∈fp,b < s2.heap.objs.size) (hkind:scope.kind = .function) (hcl:∀ x c,cl.lookup x=some c->X.env.cells.lookup x=some c)
  (hhas:∀ x,((relabel scope X.env).names.lookup x=some .cell\/(relabel scope X.env).names.lookup x=some .free)->∃ c,cl.lookup x=some c)
  (hcap:CapsOk X scope caps) (hns:h1.Ns C m) (old:∀ b o,s2.heap.get? b=some o->h1.get? b=some o) (hlst:∃ n,h1.get? D=some { cls := .type "list",data := .seq #[] n }) :
  Inv (cxComp X scope (own ++ caps.map (·.2)) cl C s2 H2 fp (X.pn ++ pins)) [] (capSt own caps σ) (upd H2 D (.lst [])) { s2 with heap:=h1,toks:=tk }:=by
 have hCs:s2.heap.objs.size < C:=by omega
 have hDn:H2 D=none:=I2.hok.fresh (by omega)
 have hCn:H2 C=none:=I2.hok.fresh (by omega)
 have hCD:C≠D:=by show ¬ @Eq Nat C D; omega
 have hDs:s2.heap.objs.size<=D:=by show @LE.le Nat _ s2.heap.objs.size D; omega
 have new:ObjOk X.prog X.w (upd H2 D (.lst [])) h1 D (.lst []):=let ⟨n,e⟩:=hlst; ⟨Nat.zero_le _,[],n,.nil,e⟩
 refine ⟨comp_ok I2 f2 hCs hfs hkind hcl hhas,rfl,I2.bare,Un.laid old hDs hDn,⟨m,hns,fun i x v e1 e2 e3 => ?_⟩,fun x c e => ?_,?_,fun x c e => ?_,fun p hp => ?_,I2.hok.laid old hDs new,?_⟩
 ·-- a captured name
  have e2':(capSt own caps σ)[i]?=some (some v):=e2
  unfold capSt at e2'
  by_cases hi:i < own.length
  ·rw [List.getElem?_append_left (by simpa using hi),List.getElem?_map] at e2'
   cases q:own[i]? with
   | none=>rw [q] at e2'; cases e2'
   | some y=>rw [q] at e2'; cases e2'
  ·have hle:own.length<=i:=Nat.le_of_not_lt hi
   rw [List.getElem?_append_right (by simpa using hle),List.getElem?_map,List.length_map] at e2'
   have e1':(own ++ caps.map (·.2))[i]?=some x:=e1
   rw [List.getElem?_append_right hle,List.getElem?_map] at e1'
   cases q:caps[i - own.length]? with
   | none=>rw [q] at e2'; cases e2'
   | some p =>
    rw [q] at e2' e1'
    have ex:p.2=x:=Option.some.inj e1'
    have ev:(σ[p.1]?).join=some v:=Option.some.inj e2'
    obtain ⟨hN,hf,hv⟩:=hcap.get q
    have hσ : σ[p.1]?=some (some v):=by
     cases r : σ[p.1]? with
     | none=>rw [r] at ev; cases ev
     | some y=>rw [r] at ev; rw [show y=some v from ev]
    obtain ⟨mX,_,hl⟩:=I2.loc
    obtain ⟨u,ru,lk⟩:=hl p.1 p.2 v hN hσ (.inr hv)
    subst ex
    refine ⟨u,ru,.inr ⟨zbk hf,?_⟩⟩
    rcases lk with ⟨k,_⟩ | ⟨_,c,e,z⟩
    ·have k':X.env.scope.names.lookup p.2=some .local:=k
     rw [k'] at hv
     rcases hv with z | z <;> cases z
    ·obtain ⟨c',e'⟩:=hhas p.2 (zbk hf)
     have e2:=hcl p.2 c' e'
     rw [e] at e2
     cases e2
     obtain ⟨o,ho,hd⟩:=z
     exact ⟨c,e',o,old c o ho,hd⟩
 ·obtain ⟨v,o,ho,hd⟩:=I2.cell x c (hcl x c e)
  exact ⟨v,o,old c o ho,hd⟩
 ·show upd H2 D (.lst []) C=none
  rw [zag hCD]; exact hCn
 ·obtain ⟨v,q⟩:=I2.cell x c (hcl x c e)
  rw [zag (Nat.ne_of_lt (Nat.lt_of_lt_of_le q.lt hDs))]
  exact I2.freeC x c (hcl x c e)
 ·have hp':p∈X.pn ++ pins:=by
   have hp2:p∈(X.pn ++ pins) ++ []:=hp
   rwa [List.append_nil] at hp2
  obtain ⟨e,n,ne,nf,d⟩:=I2.pin p hp'
  have lt:=Heap.lt_size e
  refine ⟨old p.1 p.2 e,by rw [zag (Nat.ne_of_lt (Nat.lt_of_lt_of_le lt hDs))]; exact n,?_,fun z=>(List.mem_cons.mp (I2.stkSub p.1 z)).elim ne nf,d⟩
  exact Nat.ne_of_lt (Nat.lt_trans lt hCs)
 ·show (capSt own caps σ).length=(own ++ caps.map (·.2)).length
  unfold capSt
  simp
theorem comp_back {H2 H':Hp} {s2 s':Shared} {fp:List Addr} {scope:Scope} {N:List Str} {cl:List (Str×Addr)} {C:Addr} {σ':St} {pn:List (Addr×Obj)} (I2:Inv X pins σ H2 s2) (f2:∀ b∈fp,FpOk X pins H2 b)
  (J:Inv (cxComp X scope N cl C s2 H2 fp pn) [] σ' H' s'):Inv X pins σ H' s' :=
 I2.call' (s':=s') (ch:=fp) J.os J.base J.hok J.bare fun b hb=>⟨(f2 b hb).2.2.2.1,(f2 b hb).2.1,(f2 b hb).2.2.2.2.1,(f2 b hb).2.2.2.2.2⟩
theorem Inv.gone {H:Hp} {s:Shared} {C:Addr} {h':Heap} (I:Inv X pins σ H s) (hs:Heap.SameBut C s.heap h') (hn:H C=none) (h0:X.s₀.heap.objs.size<=C) (hL:C≠X.env.locals) (h2:∀ x c,X.env.cells.lookup x=some c->c≠C) (h3:∀ p∈X.pn ++ pins,p.1≠C) :
  Inv X pins σ H { s with heap:=h' }:=I.turned (t':=s.toks) (fun b o hb e=>(hs.2 b hb).trans e) hn hL (.inr h0) h2 h3
end
theorem free_of_relabel {env:Env} {scope:Scope} {x:Str} (hcell:∀ y∈scope.names,y.2 ≠ .cell) (h:(relabel scope env).names.lookup x=some .cell\/(relabel scope env).names.lookup x=some .free):(x,NameKind.free)∈scope.names:=by
 have all:∀ k,(relabel scope env).names.lookup x=some k->(k = .cell\/k = .free)->(x,NameKind.free)∈scope.names:=by
  intro k e hk
  have m:=zcM e
  obtain ⟨⟨n,j⟩,hm,q⟩:=List.mem_map.mp (show (x,k)∈scope.names.map _ from m)
  dsimp only at q
  by_cases c:(j == NameKind.free && env.scope.kind == .function && env.kindOf n == some .cell)=true
  ·rw [if_pos c] at q
   injection q with q1 q2
   subst q1
   have jf:j = .free:=by
    simp only [Bool.and_eq_true] at c
    exact eq_of_beq c.1.1
   rw [<- jf]; exact hm
  ·rw [if_neg c] at q
   injection q with q1 q2
   subst q1 q2
   rcases hk with z | z
   ·exact absurd z (hcell _ hm)
   ·rw [z] at hm; exact hm
 rcases h with h | h
 ·exact all _ h (.inl rfl)
 ·exact all _ h (.inr rfl)
structure Steps (Y:Cx) (tg:Expr) (J:It) (fp:List Addr) (it:Addr) (tn:Nat->Heap->Prop):Prop where
 item:∀ (i:Nat) (pins:List (Addr×Obj)) (s:Shared) (σ : St) (H:Hp) (E:Value->Shared->Prop),Inv Y pins σ H s->(∀ b∈fp,FpOk Y pins H b)->tn i s.heap->J.go i H ->
  wpAny (model Y.prog Y.w) Y.A (pyNext (.ref it)) (fun r s1=>∃ u,r=some u /\
   wpAny (model Y.prog Y.w) Y.A (letOwnedTupleGo tg (.ref it) u) (fun _ s2=>∃ x H',Inv Y pins σ H' s2/\RelV x u/\J.yld i H x H'/\tn (i + 1) s2.heap/\∀ b∈fp,H' b=none) E s1) E s
 done:∀ (i:Nat) (pins:List (Addr×Obj)) (s:Shared) (σ : St) (H:Hp) (E:Value->Shared->Prop),Inv Y pins σ H s->(∀ b∈fp,FpOk Y pins H b)->tn i s.heap->J.stop i H ->
  wpAny (model Y.prog Y.w) Y.A (pyNext (.ref it)) (fun r s1=>r=none/\Inv Y pins σ H s1) E s
structure Trn (P:Program) (w:World) (K:W.Frag) (Z:Cx->Prop) (tg:Expr) (J:It) (fp:List Addr) (it:Addr) (tn:Nat->Heap->Prop):Prop where
 obj:∀ i h,tn i h->∀ b∈fp,∃ o,h.get? b=some o/\∀ v,o.data ≠ .cell v
 keep:∀ i h h',tn i h->(∀ b∈fp,∀ o,h.get? b=some o->h'.get? b=some o)->tn i h'
 steps:∀ Y:Cx,Y.prog=P->Y.w=w->Y.K=K->Z Y->Steps Y tg J fp it tn
 self:∀ (A:Around) (i:Nat) (s:Shared) (Q:Value->Shared->Prop) (E:Value->Shared->Prop),tn i s.heap->Q (.ref it) s->wpAny (model P w) A (pyIter (.ref it)) Q E s
noncomputable def PIEq (Z:Cx->Prop) (X:Cx) (pins:List (Addr×Obj)) (σ : St) (tg:Expr) (R:It->Hp->Prop) (itv:Value) (s2:Shared):Prop :=
 ∃ (it:Addr) (fp:List Addr) (tn:Nat->Heap->Prop) (J:It) (H':Hp),itv = .ref it/\Inv X pins σ H' s2/\Trn X.prog X.w X.K Z tg J fp it tn/\tn 0 s2.heap/\(∀ b∈fp,FpOk X pins H' b)/\R J H'
noncomputable def PIq (Z:Cx->Prop) (X:Cx) (tg iter:Expr) (wi:TI):Prop :=
 ∀ (pins:List (Addr×Obj)) (s:Shared) (σ : St) (H:Hp) (R:It->Hp->Prop),Inv X pins σ H s->wi σ H R ->
  wpAny (model X.prog X.w) X.A (eval iter X.env) (fun v s1=>wpAny (model X.prog X.w) X.A (pyIter v) (PIEq Z X pins σ tg R) X.xe s1) X.xe s
theorem PI.q {X:Cx} {tg iter:Expr} {wi:TI} (h:PI X tg iter wi):PIq (fun Y=>Y.calm=true) X tg iter wi:=fun pins s σ H R I q =>
 thn (h pins s σ H R I q) fun v s1 h1=>thn h1 fun itv s2 h2=>by
  obtain ⟨it,fp,tn,J,H',e,I',T,t0,f,r⟩:=h2
  exact ⟨it,fp,tn,J,H',e,I',⟨T.obj,T.keep,fun Y hP hw hK hz=>⟨fun i pins s σ H E=>hP ▸ hw ▸ T.item Y hP hw hK hz i pins s σ H E,fun i pins s σ H E=>hP ▸ hw ▸ T.done Y hP hw hK hz i pins s σ H E⟩,T.self⟩,t0,f,r⟩
section
variable {X:Cx} {elt target iter:Expr} {ifs:List Expr} {scope:Scope} {pos:Pos} {own:List Str} {caps:List (Nat×Str)} {wi:TI} {g:TG} {tf:TT} {te:TE}
structure CompScope (X:Cx) (scope:Scope) (caps:List (Nat×Str)):Prop where
 kind:scope.kind = .function
 cell:(scope.names.all fun y => !(y.2 == .cell))=true
 names:(scope.names.all fun y => !(y.2 == .local) || scope.names.lookup y.1 == some .local)=true
 free:(scope.names.all fun y => !(y.2 == .free) || (X.env.scope.names.lookup y.1 == some .cell || X.env.scope.names.lookup y.1 == some .free))=true
 caps:CapsOk X scope caps
theorem zcV {use:Option (Value->Sem Unit)} {R:Value->Shared->Prop} {pins:List (Addr×Obj)} {σ : St} {s:Shared} {H:Hp} {Q:VK} (Z:Cx->Prop) (hc:∀ cl C s H fp pins,Z (cxComp X scope (own ++ caps.map (·.2)) cl C s H fp (X.pn ++ pins))) (S:CompScope X scope caps) (hi:PIq Z X target iter wi)
  (hg:∀ cl C s H fp pn,PG (cxComp X scope (own ++ caps.map (·.2)) cl C s H fp pn) target g)
  (ht:∀ cl C s H fp pn,PTs (cxComp X scope (own ++ caps.map (·.2)) cl C s H fp pn) ifs tf)
  (he:∀ cl C s H fp pn,PE (cxComp X scope (own ++ caps.map (·.2)) cl C s H fp pn) elt te)
  (I:Inv X pins σ H s) (h:tComp wi own caps g tf te σ H Q)
  (fin:∀ D C H' s' m,Inv X pins σ H' s'->s'.heap.Ns C m->H' C=none->X.s₀.heap.objs.size<=C->C≠X.env.locals->(∀ x c,X.env.cells.lookup x=some c->c≠C)->(∀ p∈X.pn ++ pins,p.1≠C)->Q (.ref D) H' ->
   compPost (model X.prog X.w) X.A X.xe use R (.ref D) C (.ok .next) s')
  (hs:∀ x,foldedSetIterable iter X.env x=pure x) :
  wpAny (model X.prog X.w) X.A (comprehension (.ListComp elt [⟨target,iter,ifs,0⟩] scope pos) scope X.env (firstIterPos [⟨target,iter,ifs,0⟩] pos) (newList []) false (eval iter X.env) use) R X.xe s:=by
 have hcell:∀ y∈scope.names,y.2 ≠ .cell:=fun y hy z=>by
  have:=List.all_eq_true.mp S.cell y hy
  rw [z] at this; cases this
 have hnames:∀ y∈scope.names,y.2 = .local->scope.names.lookup y.1=some .local:=fun y hy z=>by
  have:=List.all_eq_true.mp S.names y hy
  rw [z] at this
  simpa using this
 have hfree:∀ y∈scope.names,y.2 = .free->X.env.scope.names.lookup y.1=some .cell\/X.env.scope.names.lookup y.1=some .free:=fun y hy z=>by
  have:=List.all_eq_true.mp S.free y hy
  rw [z] at this
  simpa using this
 obtain ⟨cl,hclos,hcl0,hcl1⟩:=closure_ok (env:=X.env) (scope:=scope) fun y hy z=>I.ok.has y.1 (hfree y hy z)
 have hcl:∀ x c,cl.lookup x=some c->X.env.cells.lookup x=some c:=fun x c e=>(hcl0 x c (zcM e)).2
 have hhas:∀ x,((relabel scope X.env).names.lookup x=some .cell\/(relabel scope X.env).names.lookup x=some .free)->∃ c,cl.lookup x=some c:=fun x hx=>by
  obtain ⟨c,hm⟩:=hcl1 x (free_of_relabel hcell hx)
  exact zd8 hm
 refine wpAny_comprehension_free (g:=⟨target,iter,ifs,0⟩) (gs := []) rfl hs hclos S.kind hnames (thn (hi pins s σ H _ I h) fun v s1 h1=>thn h1 fun itv s2 h2 => ?_)
 obtain ⟨it,fp,tn,J,H2,e,I2,T,st2,f2,cont⟩:=h2
 subst e
 obtain ⟨W,⟨m0,w0⟩,turn⟩:=cont s2.heap.objs.size (I2.hok.fresh (Nat.le_refl _))
 refine wpAny_newObj_type (wpAny_newFunctionEnv hcell (by intro y hy; simp at hy) (fun h₁ hns₁ hsb₁ => ?_) S.kind)
 dsimp only at hns₁ hsb₁ ⊢
 generalize hH2:s2.heap.push { cls := .type "list",dict:=none,data := .seq ([]:List Value).toArray }=HL at hns₁ hsb₁ ⊢
 have hC:HL.objs.size=s2.heap.objs.size + 1:=by rw [<- hH2,Heap.size_push]
 have hfs:∀ b∈fp,b < s2.heap.objs.size:=fun b hb=>let ⟨_,e,_⟩:=T.obj 0 _ st2 b hb; Heap.lt_size e
 have old:∀ b o,s2.heap.get? b=some o->h₁.get? b=some o:=fun b o e =>
  hsb₁.extBut b o (by rw [hC]; exact Nat.ne_of_lt (Nat.lt_succ_of_lt (Heap.lt_size e))) (Heap.get?_push_of_some _ (hH2 ▸ Heap.get?_push_of_some _ e))
 have hlst:∃ n,h₁.get? s2.heap.objs.size=some { cls := .type "list",data := .seq #[] n }:=⟨_,hsb₁.extBut _ _ (by rw [hC]; exact Nat.ne_of_lt (Nat.lt_succ_self _)) (Heap.get?_push_of_some _ (hH2 ▸ Heap.get?_push_size _ rfl))⟩
 have I4:Inv (cxComp X scope (own ++ caps.map (·.2)) cl HL.objs.size s2 H2 fp (X.pn ++ pins)) [] (capSt own caps σ) (upd H2 s2.heap.objs.size (.lst [])) { s2 with heap:=h₁,toks:=s2.toks + ([]:List (Str×Value)).length } :=
  comp_start I2 f2 hC rfl hfs S.kind hcl hhas S.caps hns₁ old hlst
 have st4:tn 0 h₁ := T.keep 0 _ _ st2 fun b hb o e=>old b o e
 have fr4:∀ b∈fp,upd H2 s2.heap.objs.size (.lst []) b=none:=fun b hb=>by
  rw [zag (Nat.ne_of_lt (hfs b hb))]; exact (f2 b hb).1
 have hCs:s2.heap.objs.size < HL.objs.size:=by rw [hC]; exact Nat.lt_succ_self _
 have loop:codeAny (model X.prog X.w) X.A (.compLoop (.ListComp elt [⟨target,iter,ifs,0⟩] scope pos) 0 (.ref it) (.ref s2.heap.objs.size) (compEnvC scope cl HL.objs.size X.env))
   (compPost (model X.prog X.w) X.A X.xe use R (.ref s2.heap.objs.size) HL.objs.size) { s2 with heap:=h₁,toks:=s2.toks + ([]:List (Str×Value)).length }:=by
  refine comp_loop (fun n s'=>∃ i σ' H',Inv (cxComp X scope (own ++ caps.map (·.2)) cl HL.objs.size s2 H2 fp (X.pn ++ pins)) [] σ' H' s'/\tn i s'.heap/\(∀ b∈fp,H' b=none)/\W i n σ' H') ?_ m0 ⟨0,_,_,I4,st4,fr4,w0⟩
  have U:=T.steps (cxComp X scope (own ++ caps.map (·.2)) cl HL.objs.size s2 H2 fp (X.pn ++ pins)) rfl rfl rfl (hc _ _ _ _ _ _)
  rintro n s3 ⟨i,σ3,H3,I3,st3,fr3,w3⟩
  have stat:∀ {H':Hp},(∀ b∈fp,H' b=none)->∀ b∈fp,FpOk (cxComp X scope (own ++ caps.map (·.2)) cl HL.objs.size s2 H2 fp (X.pn ++ pins)) [] H' b:=fun {H'} hn b hb=>by
   refine ⟨hn b hb,(I3.ok.exf b hb).1,I3.ok.exfs b hb,.inl hb,(I3.ok.exf b hb).2,fun p hp => ?_⟩
   have hp':p∈X.pn ++ pins:=by
    have hp2:p∈(X.pn ++ pins) ++ []:=hp
    rwa [List.append_nil] at hp2
   exact (f2 b hb).2.2.2.2.2 p hp'
  rcases turn i n σ3 H3 w3 with ⟨stop,qn⟩ | ⟨go,step⟩
  ·refine thn (U.done i [] s3 σ3 H3 _ I3 (stat fr3) st3 stop) fun r s4 ⟨hr,I4⟩ => ?_
   subst hr
   obtain ⟨m,hm,_⟩:=I4.loc
   refine fin s2.heap.objs.size HL.objs.size H3 s4 m (comp_back I2 f2 I4) hm I4.free (Nat.le_trans I2.sz (Nat.le_of_lt hCs)) (Nat.ne_of_gt (Nat.lt_trans I2.lt hCs)) (fun x c e z => ?_) (fun p hp z => ?_) qn
   ·obtain ⟨v,q⟩:=I2.cell x c e
    exact absurd (Nat.lt_trans q.lt hCs) (by rw [z]; exact Nat.lt_irrefl _)
   ·exact absurd (Nat.lt_trans (Heap.lt_size (I2.pin p hp).1) hCs) (by rw [z]; exact Nat.lt_irrefl _)
  ·refine thn (U.item i [] s3 σ3 H3 _ I3 (stat fr3) st3 go) fun r s4 ⟨u,hr,h4⟩ => ?_
   subst hr
   refine thn h4 fun _ s5 ⟨x,H5,I5,r5,y5,st5,fr5⟩ => ?_
   have I5':=I5.pinned (stat fr5) (T.obj _ _ st5)
   refine thn (hg cl HL.objs.size s2 H2 fp (X.pn ++ pins) _ s5 σ3 H5 x u _ I5' r5 (step x H5 y5)) fun _ s6 ⟨σ6,H6,I6,q6⟩ => ?_
   refine thn (ht cl HL.objs.size s2 H2 fp (X.pn ++ pins) _ s6 σ6 H6 _ I6 q6) fun b s7 ⟨H7,I7,q7⟩ => ?_
   have again:∀ {σ8:St} {H8:Hp} {s8:Shared} {m':Nat},Inv (cxComp X scope (own ++ caps.map (·.2)) cl HL.objs.size s2 H2 fp (X.pn ++ pins)) ([] ++ pinsAt fp s5.heap) σ8 H8 s8->m' < n->W (i + 1) m' σ8 H8 ->
     ∃ m,m < n/\∃ i σ' H',Inv (cxComp X scope (own ++ caps.map (·.2)) cl HL.objs.size s2 H2 fp (X.pn ++ pins)) [] σ' H' s8/\tn i s8.heap/\(∀ b∈fp,H' b=none)/\W i m σ' H':=fun {σ8 H8 s8 m'} I8 hm w8=>by
    refine ⟨m',hm,i + 1,σ8,H8,I8.unpinned,T.keep _ _ _ st5 fun b hb o e=>(I8.pin (b,o) (List.mem_append_right _ (List.mem_append_right _ (zbR hb e)))).1,fun b hb => ?_,w8⟩
    obtain ⟨o,e,d⟩:=T.obj _ _ st5 b hb
    exact (I8.pin (b,o) (List.mem_append_right _ (List.mem_append_right _ (zbR hb e)))).2.1
   cases b with
   | false =>
    rw [if_neg Bool.false_ne_true] at q7 ⊢
    obtain ⟨m',hm,w7⟩:=q7
    exact again I7 hm w7
   | true =>
    rw [if_pos rfl] at q7 ⊢
    refine thnE (he cl HL.objs.size s2 H2 fp (X.pn ++ pins) _ s7 σ6 H7 _ I7 q7) fun y s8 v H8 I8 r8 ⟨ys,hy,hz,m',hm,w8⟩ => ?_
    refine thn (zaH _ s8 σ6 H8 (.ref s2.heap.objs.size) [v] (.ref s2.heap.objs.size) [y] (fun _ H9=>H9=upd H8 s2.heap.objs.size (.lst (ys ++ [v]))) I8 rfl (.cons r8 .nil) ⟨_,ys,v,rfl,rfl,hy,hz,rfl⟩) fun z s9 ⟨_,H9,I9,_,e9⟩ => ?_
    subst e9
    exact again I9 hm w8
 exact codeAny_compStart_list loop (T.self _ 0 _ _ _ st4 loop)
theorem zaU (hc:X.calm=true) (S:CompScope X scope caps) (hi:PI X target iter wi)
  (hg:∀ cl C s H fp pn,PG (cxComp X scope (own ++ caps.map (·.2)) cl C s H fp pn) target g)
  (ht:∀ cl C s H fp pn,PTs (cxComp X scope (own ++ caps.map (·.2)) cl C s H fp pn) ifs tf)
  (he:∀ cl C s H fp pn,PE (cxComp X scope (own ++ caps.map (·.2)) cl C s H fp pn) elt te)
  (hs:∀ x,foldedSetIterable iter X.env x=pure x:=by intro _; rfl):PE X (.ListComp elt [⟨target,iter,ifs,0⟩] scope pos) (tComp wi own caps g tf te):=by
 intro pins s σ H Q I h
 rw [eval_ListComp]
 refine zcV (Q:=Q) (fun Y=>Y.calm=true) (fun _ _ _ _ _ _=>hc) S hi.q hg ht he I h (fun D C H' s' m I' hm hn h0 hL h2 h3 q => ?_) hs
 exact ⟨m,hm,fun h' hs'=>⟨.ref D,H',I'.gone hs' hn h0 hL h2 h3,rfl,q⟩⟩
theorem pe_compq (Z:Cx->Prop) (hc:∀ cl C s H fp pins,Z (cxComp X scope (own ++ caps.map (·.2)) cl C s H fp (X.pn ++ pins))) (S:CompScope X scope caps) (hi:PIq Z X target iter wi)
  (hg:∀ cl C s H fp pn,PG (cxComp X scope (own ++ caps.map (·.2)) cl C s H fp pn) target g)
  (ht:∀ cl C s H fp pn,PTs (cxComp X scope (own ++ caps.map (·.2)) cl C s H fp pn) ifs tf)
  (he:∀ cl C s H fp pn,PE (cxComp X scope (own ++ caps.map (·.2)) cl C s H fp pn) elt te)
  (hs:∀ x,foldedSetIterable iter X.env x=pure x:=by intro _; rfl):PE X (.ListComp elt [⟨target,iter,ifs,0⟩] scope pos) (tComp wi own caps g tf te):=by
 intro pins s σ H Q I h
 rw [eval_ListComp]
 refine zcV (Q:=Q) Z hc S hi hg ht he I h (fun D C H' s' m I' hm hn h0 hL h2 h3 q => ?_) hs
 exact ⟨m,hm,fun h' hs'=>⟨.ref D,H',I'.gone hs' hn h0 hL h2 h3,rfl,q⟩⟩
theorem ps_setC {i:Nat} {x:Str} {pos' spos:Pos} (hN:X.N.Nodup) (hn:X.N[i]?=some x) (hx:Loc X.env.scope x) (hc:X.calm=true) (S:CompScope X scope caps) (hi:PI X target iter wi)
  (hg:∀ cl C s H fp pn,PG (cxComp X scope (own ++ caps.map (·.2)) cl C s H fp pn) target g)
  (ht:∀ cl C s H fp pn,PTs (cxComp X scope (own ++ caps.map (·.2)) cl C s H fp pn) ifs tf)
  (he:∀ cl C s H fp pn,PE (cxComp X scope (own ++ caps.map (·.2)) cl C s H fp pn) elt te)
  (hsw:swapsWith (.ListComp elt [⟨target,iter,ifs,0⟩] scope pos) (some (.Name x pos')) spos.line X.env=pure true:=by rfl)
  (hf:X.fn x=true\/X.env.scope.names.lookup x=some .local:=by first | exact .inl rfl | exact .inr rfl | assumption)
  (hs:∀ x,foldedSetIterable iter X.env x=pure x:=by intro _; rfl):PS X (.Assign [.Name x pos'] (.ListComp elt [⟨target,iter,ifs,0⟩] scope pos) spos) (tAsg (tComp wi own caps g tf te) (gName i)):=by
 intro pins s σ H D I h
 rw [exec_Assign_Name_used _ _ _ _ hsw]
 refine wpAny_bind (wpAny_standAt (wpAny_bind ?_))
 show wpAny _ _ (do let _ <- comprehension (.ListComp elt [⟨target,iter,ifs,0⟩] scope pos) scope X.env _ (newList []) false (eval iter X.env) (some (assign (.Name x pos') X.env))) _ _ s
 refine wpAny_bind (wpAny_mono (zcV (use:=some (assign (.Name x pos') X.env)) (R:=fun _ s'=>SP X pins D .next s') (Q:=fun v H1=>gName i v σ H1 D.nx) (fun Y=>Y.calm=true) (fun _ _ _ _ _ _=>hc) S hi.q hg ht he I h (fun Dl C H' s' m I' hm hnC h0 hL h2 h3 q => ?_) hs)
  (fun _ s' hq=>wpAny_pure (wpAny_pure hq)) fun _ _ e=>e)
 show wpAny _ _ (assign (.Name x pos') X.env (.ref Dl)) _ _ s'
 refine wpAny_assign_Name (zdW I' hN hn hx (show RelV (.ref Dl) (.ref Dl) from rfl) (fun s'' I'' sb => ?_) hf)
 obtain ⟨a,hsb,ha⟩:=sb
 have hCa:C≠a:=by
  rcases ha with z | z
  ·rw [z]; exact hL
  ·exact Ne.symm (h2 x a z)
 exact ⟨m,hm.sameBut hsb hCa,fun h' hs'=>⟨_,H',I''.gone hs' hnC h0 hL h2 h3,q⟩⟩
end
noncomputable def sgn (c:Nat):V := .str ⟨#[c]⟩
noncomputable def Its (x:Str):It:=⟨fun i _=>i < x.cps.size,fun i H v H'=>H'=H/\∃ c,x.cps[i]?=some c/\v=sgn c,fun i _=>i=x.cps.size⟩
theorem zeV {P:Program} {w:World} {K:W.Frag} {tg:Expr} (it:Addr) (x:Str) (t:Tok) (ty:String)
  (hty : ["enumerate","zip","dict_itemiterator","dict_reverseitemiterator","odict_iterator","itertools.zip_longest","itertools.pairwise"].contains ty=false)
  (W:∀ A:Around,A.handled=none->Walks P w A it [it] [it] x.cps.size (SignAt x) (fun i h=>h.IsStrIter it ty x t i))
  (sf:∀ (A:Around) (i:Nat) (s:Shared) (Q:Value->Shared->Prop) (E:Value->Shared->Prop),s.heap.IsStrIter it ty x t i->Q (.ref it) s->wpAny (model P w) A (pyIter (.ref it)) Q E s) :
  Turn P w K tg (Its x) [it] it (fun i h=>h.IsStrIter it ty x t i) where
 mem:=by simp
 obj:=fun i h st b hb=>by
  have e:b=it:=by simpa using hb
  subst e
  obtain ⟨o,e,c,d⟩:=st
  exact ⟨o,e,fun v z=>by rw [d] at z; cases z⟩
 keep:=fun i h h' st k=>by
  obtain ⟨o,e,r⟩:=st
  exact ⟨o,k it (by simp) o e,r⟩
 item:=by
  intro X hP hw hK hc i pins s σ H E I hf st hg
  subst hP hw hK
  obtain ⟨f0,f1,f2,f3,f4,f5⟩:=hf it (by simp)
  refine (W X.A (I.ok.hd hc)).item i s _ _ hg st fun v h' tk hv st' kk => ?_
  obtain ⟨c,u,hc',rfl⟩:=hv
  have I1:Inv X pins σ H { s with heap:=h',toks:=tk }:=I.turned (fun b o hb e=>kk b o (by simpa using hb) e) f0 f1 f3 f4 f5
  obtain ⟨o,e,cc,d⟩:=id st'
  exact ⟨_,rfl,zf5 (s:={ s with heap:=h',toks:=tk }) e cc d hty ⟨sgn c,H,I1,⟨u,rfl⟩,⟨rfl,c,hc',rfl⟩,st',fun b hb=>(hf b hb).1⟩⟩
 done:=by
  intro X hP hw hK hc i pins s σ H E I hf st hg
  subst hP hw hK
  obtain ⟨f0,f1,f2,f3,f4,f5⟩:=hf it (by simp)
  have hi:i=x.cps.size:=hg
  subst hi
  exact (W X.A (I.ok.hd hc)).done s _ _ st fun h' tk kk=>⟨rfl,I.turned (fun b o hb e=>kk b o (by simpa using hb) e) f0 f1 f3 f4 f5⟩
 self:=fun A i s Q E st h=>sf A i s Q E st h
section
variable {X:Cx} {tg:Expr}
noncomputable def iStr (tl:TE):TI:=fun σ H R=>tl σ H fun v H1=>∃ x,v = .str x/\R (Its x) H1
theorem zgt {l:Expr} {tl:TE} (hl:PE X l tl):PI X tg l (iStr tl):=by
 intro pins s σ H R I h
 refine thnE (hl pins s σ H _ I h) fun v s1 y H1 I1 r1 q1 => ?_
 obtain ⟨x,e,q⟩:=q1
 subst e
 obtain ⟨t,rfl⟩:=r1
 have hf:∀ o:Obj,∀ b ∈ [s1.heap.objs.size],FpOk X pins H1 b:=fun o b hb=>by
  have e:b=s1.heap.objs.size:=by simpa using hb
  subst e
  exact I1.fpOk (Nat.le_refl _) (I1.hok.fresh (Nat.le_refl _))
 cases ha:x.cps.all (· < 128)
 ·exact wpAny_pyIter_wide ha ⟨s1.heap.objs.size,[s1.heap.objs.size],_,_,H1,rfl,I1.kept (t':=s1.toks) fun b o e=>Heap.get?_push_of_some _ e,
   zeV _ x t "str_iterator" (by decide) (fun A hA=>Walks.strWide hA _ x t) (fun A i s Q E st h=>wpAny_pyIter_striter_wide st h),⟨_,Heap.get?_push_size _ rfl,rfl,rfl⟩,hf default,q⟩
 ·exact wpAny_pyIter_ascii ha ⟨s1.heap.objs.size,[s1.heap.objs.size],_,_,H1,rfl,I1.kept (t':=s1.toks) fun b o e=>Heap.get?_push_of_some _ e,
   zeV _ x t "str_ascii_iterator" (by decide) (fun A hA=>Walks.strAscii hA _ x t) (fun A i s Q E st h=>wpAny_pyIter_striter_ascii st h),⟨_,Heap.get?_push_size _ rfl,rfl,rfl⟩,hf default,q⟩
end
structure Gives (J:It) (Ok:Hp->Prop) (L:List V):Prop where
 go:∀ i H,Ok H->i < L.length->J.go i H
 yld:∀ i H x H',Ok H->J.yld i H x H'->i < L.length->H'=H/\L[i]?=some x
 stop:∀ H,Ok H->J.stop L.length H
theorem zaK (lo:Int) (n:Nat):Gives (Itr lo n) (fun _=>True) ((List.range n).map fun i=>V.int (lo + (i:Nat))) where
 go:=fun i H _ h=>by
  have:i < n:=by simpa using h
  exact this
 yld:=fun i H x H' _ y h=>by
  obtain ⟨e,rfl⟩:=y
  have:i < n:=by simpa using h
  exact ⟨e,by simp [this]⟩
 stop:=fun H _=>by
  show n<=_
  simp
theorem zeh (x:Str):Gives (Its x) (fun _=>True) (x.cps.toList.map sgn) where
 go:=fun i H _ h=>by
  have:i < x.cps.size:=by simpa using h
  exact this
 yld:=fun i H v H' _ y h=>by
  obtain ⟨e,c,hc,rfl⟩:=y
  refine ⟨e,?_⟩
  rw [List.getElem?_map]
  simp [hc]
 stop:=fun H _=>by
  show _=x.cps.size
  simp
theorem zak (K:W.Frag) (a:Addr) (xs:List V):Gives (Itl K a) (fun H=>SqL K H a xs) xs where
 go:=fun i H q h=>⟨xs,xs[i],q,by simp [h]⟩
 yld:=fun i H v H' q y h=>⟨y.1,y.2 xs q⟩
 stop:=fun H q=>⟨xs,q,Nat.le_refl _⟩
theorem zbl {J:It} {Ok:Hp->Prop} {L:List V} {g:TG} {tb:TS} {D:Ends} {σ : St} {H:Hp} (G:Gives J Ok L) (Pv:Nat->St->Hp->Prop) (h0:Pv 0 σ H) (hk:∀ i σ H,i<=L.length->Pv i σ H->Ok H)
  (hs:∀ i x σ H,L[i]?=some x->Pv i σ H->g x σ H fun σ2 H2=>tb { D with nx:=Pv (i + 1),ct:=Pv (i + 1),bk:=D.nx } σ2 H2) (hd:∀ σ H,Pv L.length σ H->D.nx σ H) :
  ∃ W:Nat->Nat->St->Hp->Prop,(∃ m,W 0 m σ H)/\∀ i m σ H,W i m σ H ->
   (J.stop i H/\D.nx σ H)\/(J.go i H/\∃ N:St->Hp->Prop,(∀ σ' H',N σ' H'->∃ m',m' < m/\W (i + 1) m' σ' H')/\∀ x H',J.yld i H x H'->g x σ H' fun σ2 H2=>tb { D with nx:=N,ct:=N,bk:=D.nx } σ2 H2):=by
 refine ⟨fun i m σ H=>m=L.length - i/\i<=L.length/\Pv i σ H,⟨L.length,by simp,Nat.zero_le _,h0⟩,?_⟩
 rintro i m σ H ⟨rfl,hi,p⟩
 have q:=hk i σ H hi p
 by_cases hlt:i < L.length
 ·refine .inr ⟨G.go i H q hlt,Pv (i + 1),fun σ' H' p'=>⟨L.length - (i + 1),by omega,rfl,hlt,p'⟩,fun x H' y => ?_⟩
  obtain ⟨e,yy⟩:=G.yld i H x H' q y hlt
  subst e
  exact hs i x σ _ yy p
 ·have e:i=L.length:=by omega
  subst e
  exact .inl ⟨G.stop H q,hd σ H p⟩
noncomputable def CNext (D:Addr) (L:List V) (Pv:Nat->List V->St->Hp->Prop) (i:Nat) (σ2:St) (v:V) (H5:Hp):Prop :=
 ∃ ys,H5 D=some (.lst ys)/\ys.length < sizeLine/\∃ m',m' < L.length - i/\(m'=L.length - (i + 1)/\i + 1<=L.length/\∃ xs,Pv (i + 1) xs σ2 (upd H5 D (.lst (ys ++ [v]))))
noncomputable def CSkip (L:List V) (Pv:Nat->List V->St->Hp->Prop) (i:Nat) (σ2:St) (H4:Hp):Prop :=
 ∃ m',m' < L.length - i/\(m'=L.length - (i + 1)/\i + 1<=L.length/\∃ xs,Pv (i + 1) xs σ2 H4)
theorem CNext.of {D:Addr} {L:List V} {Pv:Nat->List V->St->Hp->Prop} {i:Nat} {σ2:St} {v:V} {H5:Hp} {xs:List V} (hi:i < L.length) (hL:L.length<=sizeLine) (h5:H5 D=some (.lst xs)) (hx:xs.length<=i) (p:Pv (i + 1) (xs ++ [v]) σ2 (upd H5 D (.lst (xs ++ [v])))):CNext D L Pv i σ2 v H5 :=
 ⟨xs,h5,by omega,L.length - (i + 1),by omega,rfl,hi,_,p⟩
theorem CSkip.of {L:List V} {Pv:Nat->List V->St->Hp->Prop} {i:Nat} {σ2:St} {H4:Hp} {xs:List V} (hi:i < L.length) (p:Pv (i + 1) xs σ2 H4):CSkip L Pv i σ2 H4:=⟨L.length - (i + 1),by omega,rfl,hi,_,p⟩
theorem zgg {J:It} {Ok:Hp->Prop} {L:List V} {g:TG} {tf:TT} {te:TE} {D:Addr} {σ0:St} {H1:Hp} {Q:VK} (G:Gives J Ok L) (Pv:Nat->List V->St->Hp->Prop) (h0:Pv 0 [] σ0 (upd H1 D (.lst [])))
  (hk:∀ i xs σ H,i<=L.length->Pv i xs σ H->Ok H)
  (hs:∀ i x xs σ H,i < L.length->L[i]?=some x->Pv i xs σ H->g x σ H fun σ2 H3=>tf σ2 H3 fun b H4=>if b=true then te σ2 H4 fun v H5=>CNext D L Pv i σ2 v H5 else CSkip L Pv i σ2 H4)
  (hd:∀ xs σ H,Pv L.length xs σ H->Q (.ref D) H) :
  CompW J D σ0 H1 g tf te Q:=by
 refine ⟨fun i m σ H=>m=L.length - i/\i<=L.length/\∃ xs,Pv i xs σ H,⟨L.length,by simp,Nat.zero_le _,[],h0⟩,?_⟩
 rintro i m σ H ⟨rfl,hi,xs,p⟩
 have q:=hk i xs σ H hi p
 by_cases hlt:i < L.length
 ·refine .inr ⟨G.go i H q hlt,fun x H' y => ?_⟩
  obtain ⟨e,yy⟩:=G.yld i H x H' q y hlt
  subst e
  exact hs i x xs σ _ hlt yy p
 ·have e:i=L.length:=by omega
  subst e
  exact .inl ⟨G.stop H q,hd xs σ H p⟩
theorem Same.put {H0 H:Hp} {p:Addr} {o:HO} (s:Same H0 H) (n:H0 p=none):Same H0 (upd H p o):=fun b u e=>by
 rw [zag (zal e n)]
 exact s b u e
theorem Same.new {H:Hp} {p:Addr} {o:HO} (n:H p=none):Same H (upd H p o):=(Same.refl H).put n
theorem Same.tup {K:W.Frag} {H H':Hp} {a:Addr} {xs:List V} (e:Same H H') (h:SqT K H a xs):SqT K H' a xs:=by
 rcases h with (h | ⟨o,h⟩) | h
 ·exact .inl (.inl (e _ _ h))
 ·exact .inl (.inr ⟨o,e _ _ h⟩)
 ·exact .inr h
theorem zaE {α : Type} {l:List α} {i:Nat} {x : α} (h:l[i]?=some x):l.take (i + 1)=l.take i ++ [x]:=by
 rw [List.take_add_one,h]
 rfl
theorem zbY {J:It} {Ok:Hp->Prop} {L:List V} {tf:TT} {te:TE} {D:Addr} {σ0 capv:St} {H1:Hp} {Q:VK} (hσ : σ0=none :: capv) (G:Gives J Ok L) (hL:L.length<=sizeLine) (hD:H1 D=none) (hOk:∀ H,Same H1 H->Ok H) (p:V->Bool) (F:V->V)
  (ht:∀ x∈L,∀ H R,Same H1 H->(∀ H',Same H H'->R (p x) H')->tf (some x :: capv) H R)
  (he:∀ x∈L,p x=true->∀ H R,Same H1 H->(∀ H',Same H H'->R (F x) H')->te (some x :: capv) H R)
  (hd:∀ H,Same H1 H->H D=some (.lst ((L.filter p).map F))->Q (.ref D) H) :
  CompW J D σ0 H1 (gName 0) tf te Q:=by
 subst hσ
 refine zgg G (fun i xs σ H=>(∃ o,σ = o :: capv)/\Same H1 H/\H D=some (.lst xs)/\xs=((L.take i).filter p).map F) ⟨⟨none,rfl⟩,Same.new hD,upd_same,by simp⟩ (fun i xs σ H _ h=>hOk H h.2.1) ?_ ?_
 ·rintro i x xs σ H hi hx ⟨⟨o,rfl⟩,s,e,exs⟩
  have hm:x∈L:=List.mem_of_getElem? hx
  have hxl:xs.length<=i:=by
   rw [exs,List.length_map]
   exact Nat.le_trans (List.length_filter_le _ _) (by rw [List.length_take]; omega)
  show tf (some x :: capv) H _
  refine ht x hm H _ s fun H' s' => ?_
  cases hp:p x with
  | true =>
   rw [if_pos rfl]
   refine he x hm hp H' _ (s.trans s') fun H'' s'' => ?_
   have e'':H'' D=some (.lst xs):=s'' _ _ (s' _ _ e)
   refine CNext.of hi hL e'' hxl ⟨⟨some x,rfl⟩,((s.trans s').trans s'').put hD,upd_same,?_⟩
   rw [zaE hx,List.filter_append,List.map_append,exs]
   simp [hp]
  | false =>
   rw [if_neg Bool.false_ne_true]
   refine CSkip.of hi ⟨⟨some x,rfl⟩,s.trans s',s' _ _ e,?_⟩
   rw [zaE hx,List.filter_append,List.map_append,exs]
   simp [hp]
 ·rintro xs σ H ⟨_,s,e,exs⟩
  refine hd H s ?_
  rw [e,exs,List.take_length]
theorem zcE {P:Program} {w:World} {A:Around} {E:Value->Shared->Prop} {s:Shared} {a:Addr} {its:List Value} {Q:Value->Shared->Prop} (hh:A.handled=none) (hl:s.heap.IsList a its.toArray)
  (h:∀ (I:Addr) (s2:Shared),s2={ s with heap:=s.heap.push { cls := .type "list_iterator",data := .fields #[.ref a,.int 0 0] } }->I=s.heap.objs.size ->
   Walks P w A I [I,a] [I] its.length (fun i v=>its[i]?=some v) (fun i h=>h.IsListIter I a i/\h.IsList a its.toArray)->(s2.heap.IsListIter I a 0/\s2.heap.IsList a its.toArray)->(∀ b ∈ [I,a],b < s2.heap.objs.size) ->
   (∀ h':Heap,(∀ b o,b ∉ [I]->s2.heap.get? b=some o->h'.get? b=some o)->∀ b o,s.heap.get? b=some o->h'.get? b=some o)->Q (.ref I) s2) :
  wpAny (model P w) A (pyIter (.ref a)) Q E s:=by
 have hlt:a < s.heap.objs.size:=by obtain ⟨_,e,_⟩:=hl; exact Heap.lt_size e
 refine wpAny_pyIter_list hl (h _ _ rfl rfl ?_ ⟨⟨_,Heap.get?_push_size _ rfl,rfl,rfl⟩,hl.push _⟩ (fun b hb => ?_) (fun h' k b o e=>k b o ?_ (Heap.get?_push_of_some _ e)))
 ·have W:=Walks.list (prog:=P) (w:=w) (A:=A) hh s.heap.objs.size a (Nat.ne_of_lt hlt) its.toArray
  simpa using W
 ·show b < (s.heap.push _).objs.size
  rw [Heap.size_push]
  rcases List.mem_cons.mp hb with rfl | hb
  ·exact Nat.lt_succ_self _
  ·have e:b=a:=by simpa using hb
   subst e
   exact Nat.lt_succ_of_lt hlt
 ·intro z
  have e2:b=s.heap.objs.size:=by simpa using z
  subst e2
  exact absurd (Heap.lt_size e) (Nat.lt_irrefl _)
theorem zeS {xs:List V} {us:List Value} (r:Vals xs us) {i:Nat} {u:Value} (h:us[i]?=some u):∃ x,xs[i]?=some x/\RelV x u:=by
 have hi:i < xs.length:=by rw [r.length]; exact (List.getElem?_eq_some_iff.mp h).1
 obtain ⟨u',hu,ru⟩:=r.get (x:=xs[i]) (i:=i) (by simp [hi])
 rw [h] at hu
 cases hu
 exact ⟨_,by simp [hi],ru⟩
theorem range_all_map (bs:List Bool):(List.range bs.length).all (fun i=>bs.getD i false)=bs.all id:=by
 rw [Bool.eq_iff_iff,List.all_eq_true,List.all_eq_true]
 constructor
 ·intro h x hx
  obtain ⟨i,hi,e⟩:=List.mem_iff_getElem.mp hx
  have:=h i (List.mem_range.mpr hi)
  simp only [List.getD_eq_getElem?_getD,hi,getElem?_pos,Option.getD_some,e] at this
  exact this
 ·intro h i hi
  have hi':=List.mem_range.mp hi
  simp only [List.getD_eq_getElem?_getD,hi',getElem?_pos,Option.getD_some]
  exact h _ (List.getElem_mem hi')
theorem range_any_map (bs:List Bool):(List.range bs.length).any (fun i=>bs.getD i false)=bs.any id:=by
 rw [Bool.eq_iff_iff,List.any_eq_true,List.any_eq_true]
 constructor
 ·rintro ⟨i,hi,h⟩
  have hi':=List.mem_range.mp hi
  simp only [List.getD_eq_getElem?_getD,hi',getElem?_pos,Option.getD_some] at h
  exact ⟨_,List.getElem_mem hi',h⟩
 ·rintro ⟨x,hx,h⟩
  obtain ⟨i,hi,e⟩:=List.mem_iff_getElem.mp hx
  refine ⟨i,List.mem_range.mpr hi,?_⟩
  simp only [List.getD_eq_getElem?_getD,hi,getElem?_pos,Option.getD_some,e]
  exact h
section
variable {X:Cx}
theorem zeW {P:Program} {w:World} {A:Around} {bs:List Bool} {its:List Value} (r:Vals (bs.map V.bl) its):TruthOf P w A (fun i v=>its[i]?=some v) (fun i=>bs.getD i false):=by
 intro i v s Q E hv q
 obtain ⟨x,hx,rx⟩:=zeS r hv
 rw [List.getElem?_map] at hx
 cases e:bs[i]? with
 | none=>rw [e] at hx; cases hx
 | some b =>
  rw [e] at hx
  cases hx
  cases (show v=Value.bool b from rx)
  refine wpAny_truthy_bool ?_
  have eb:bs.getD i false=b:=by rw [List.getD_eq_getElem?_getD,e]; rfl
  rw [<- eb]
  exact q
theorem zdN (hc:X.calm=true):CallR X (.builtin "all") (fun xs H Q=>∃ (a:Addr) (bs:List Bool),xs = [V.ref a]/\SqL X.K H a (bs.map V.bl)/\Q (.bl (bs.all id)) H):=by
 intro pins s σ H xs us Q I r h
 obtain ⟨a,bs,rfl,hq,q⟩:=h
 obtain ⟨u,rfl,ru⟩:=zb5 r
 cases ru
 obtain ⟨its,rv,p,hz⟩:=I.list hq
 refine call_all_walk (zcE (A:=X.A.in1) (I.ok.hd hc) p.isList fun It s2 e2 eI W st hf old => ?_)
 have hl:bs.length=its.length:=by have:=rv.length; rwa [List.length_map] at this
 refine ⟨It,_,_,its.length,_,_,_,rfl,W,st,zeW rv,fun h' tk k => ?_⟩
 subst e2
 rw [<- hl,range_all_map]
 exact ⟨.bl _,H,I.kept (t':=tk) (old h' k),rfl,q⟩
theorem call_any (hc:X.calm=true):CallR X (.builtin "any") (fun xs H Q=>∃ (a:Addr) (bs:List Bool),xs = [V.ref a]/\SqL X.K H a (bs.map V.bl)/\Q (.bl (bs.any id)) H):=by
 intro pins s σ H xs us Q I r h
 obtain ⟨a,bs,rfl,hq,q⟩:=h
 obtain ⟨u,rfl,ru⟩:=zb5 r
 cases ru
 obtain ⟨its,rv,p,hz⟩:=I.list hq
 refine call_any_walk (zcE (A:=X.A.in1) (I.ok.hd hc) p.isList fun It s2 e2 eI W st hf old => ?_)
 have hl:bs.length=its.length:=by have:=rv.length; rwa [List.length_map] at this
 refine ⟨It,_,_,its.length,_,_,_,rfl,W,st,zeW rv,fun h' tk k => ?_⟩
 subst e2
 rw [<- hl,range_any_map]
 exact ⟨.bl _,H,I.kept (t':=tk) (old h' k),rfl,q⟩
theorem zdH:∀ {ns:List Int} {its:List Value},Vals (ns.map V.int) its->IntsAre its ns
 | [],_,r=>by rw [List.map_nil] at r; cases r; exact .nil
 | n :: ns,_,r=>by
  rw [List.map_cons] at r
  cases r with
  | cons h t =>
   obtain ⟨tk,e⟩:=(show ∃ t,_=Value.int n t from h)
   subst e
   exact .cons n tk (zdH t)
theorem ints_get {ns:List Int} {its:List Value} (r:Vals (ns.map V.int) its) {i:Nat} {v:Value} (h:its[i]?=some v):∃ t,v = .int (ns.getD i 0) t:=by
 obtain ⟨x,hx,rx⟩:=zeS r h
 rw [List.getElem?_map] at hx
 cases e:ns[i]? with
 | none=>rw [e] at hx; cases hx
 | some n =>
  rw [e] at hx
  cases hx
  have en:ns.getD i 0=n:=by rw [List.getD_eq_getElem?_getD,e]; rfl
  rw [en]
  exact rx
theorem zdg (ns:List Int):∀ k,k<=ns.length->preSum (fun i=>ns.getD i 0) k=(ns.take k).sum
 | 0,_=>rfl
 | k + 1,h=>by
  have hk:k < ns.length:=by omega
  rw [preSum,zdg ns k (by omega),zaE (x:=ns[k]) (by simp [hk]),List.sum_append]
  simp [List.getD_eq_getElem?_getD,hk]
theorem zeo (hc:X.calm=true):CallR X (.builtin "sum") (fun xs H Q=>∃ (a:Addr) (ns:List Int),xs = [V.ref a]/\SqL X.K H a (ns.map V.int)/\Q (.int ns.sum) H):=by
 intro pins s σ H xs us Q I r h
 obtain ⟨a,ns,rfl,hq,q⟩:=h
 obtain ⟨u,rfl,ru⟩:=zb5 r
 cases ru
 obtain ⟨its,rv,p,hz⟩:=I.list hq
 have hl:ns.length=its.length:=by have:=rv.length; rwa [List.length_map] at this
 refine call_sum_walkG (zcE (A:=X.A.in1) (I.ok.hd hc) p.isList fun It s2 e2 eI W st hf old => ?_)
 refine ⟨It,_,_,its.length,_,_,(fun i=>ns.getD i 0),rfl,W,st,hf,(fun _ _=>ints_get rv),fun h' tk t' k => ?_⟩
 subst e2
 refine ⟨.int _,H,I.kept (t':=tk) (old h' k),⟨t',rfl⟩,?_⟩
 rw [<- hl,zdg ns _ (Nat.le_refl _),List.take_length]
 exact q
noncomputable def many (ns:List Int):Nat:=(firstMet (fun i=>ns.getD i 0) ns.length).length
theorem call_set1 (hc:X.calm=true):CallR X (.type "set") (fun xs H Q=>∃ (a:Addr) (ns:List Int),xs = [V.ref a]/\SqL X.K H a (ns.map V.int)/\ns.length + 1 < scanBound/\∀ p,H p=none->Q (.ref p) (upd H p (.set (fun k=>(firstMet (fun i=>ns.getD i 0) ns.length).any (· == k)) (many ns)))):=by
 intro pins s σ H xs us Q I r h
 obtain ⟨a,ns,rfl,hq,hb,q⟩:=h
 obtain ⟨u,rfl,ru⟩:=zb5 r
 cases ru
 obtain ⟨its,rv,p,hz⟩:=I.list hq
 have hl:ns.length=its.length:=by have:=rv.length; rwa [List.length_map] at this
 have hsz:its.toArray.size=ns.length:=by rw [List.size_toArray,hl]
 refine call_set_list (items:=its.toArray) (ns:=ns) (I.ok.hd hc) p.isList (by simpa using zdH rv) (by rw [hsz]; exact hb) fun h' tk hS k => ?_
 rw [hsz] at hS
 have I':Inv X pins σ (upd H s.heap.objs.size (.set (fun k=>(firstMet (fun i=>ns.getD i 0) ns.length).any (· == k)) (many ns))) { s with heap:=h',toks:=tk } :=
  I.laid (fun b o e=>k b o (Heap.lt_size e) e) (Nat.le_refl _) hS
 exact ⟨.ref _,_,I',rfl,q _ (I.hok.fresh (Nat.le_refl _))⟩
theorem call_lenS:CallR X (.builtin "len") (fun xs H Q=>∃ a S n,xs = [V.ref a]/\H a=some (.set S n)/\Q (.int n) H):=by
 intro pins s σ H xs us Q I r h
 obtain ⟨a,S,n,rfl,hq,q⟩:=h
 obtain ⟨u,rfl,ru⟩:=zb5 r
 cases ru
 obtain ⟨o,es,ep,t,h1,h2,h3,h4,h5,h6,h7,h8⟩:=(show s.heap.SetOf (intKind X.prog X.w) a S n from I.hok a _ hq)
 have hfit:(es.size:Int) < 2 ^ 63:=by
  have:(es.size:Int) < 4096:=by unfold scanBound at h6; omega
  exact Int.lt_of_lt_of_le this (by decide)
 exact call_len_set h1 h2 h3 h7 hfit ⟨.int n,H,I.tok _,⟨_,by rw [h8]⟩,q⟩
theorem zd4:OpR X (compareOp .LtE) (fun x y H Q=>∃ i j,x = .str i/\y = .str j/\Q (.bl (!decide (j.cps.toList < i.cps.toList))) H):=by
 intro pins s σ H x y v u Q I rx ry h
 obtain ⟨i,j,rfl,rfl,q⟩:=h
 obtain ⟨t,rfl⟩:=rx
 obtain ⟨t',rfl⟩:=ry
 exact PySem.P.le_str (zaB I q rfl)
theorem call_isi {c:Value} {cv:V} (hcv:RelV cv c) (huniq:∀ u,RelV cv u->u=c):CallR X (.builtin "isinstance") (fun xs H Q=>∃ x t b,xs = [x,cv]/\TyOf X.K H x t/\PySem.W.kitOne X.K t c=some b/\Q (.bl b) H):=by
 intro pins s σ H xs us Q I r h
 obtain ⟨x,t,b,rfl,ty,e,q⟩:=h
 obtain ⟨u,u',rfl,ru,ru'⟩:=zgW r
 have:=huniq u' ru'
 subst this
 exact isinst_ok I ru ty e fun tk=>⟨.bl b,H,I.tok _,rfl,q⟩
theorem zbA (T:String):CallR X (.builtin "isinstance") (fun xs H Q=>∃ x t b,xs = [x,.ty T]/\TyOf X.K H x t/\PySem.W.kitOne X.K t (.type T)=some b/\Q (.bl b) H):=call_isi (c := .type T) (cv := .ty T) rfl fun _ h=>h
end
section
variable {X:Cx}
noncomputable def tCut (t u:TS):TS:=fun D σ H=>∃ M:St->Hp->Prop,t { D with nx:=M } σ H/\∀ σ' H',M σ' H'->u D σ' H'
theorem zcj {st:Stmt} {rest:List Stmt} {t u:TS} (h1:PS X st t) (h2:PSs X rest u):PSs X (st :: rest) (tCut t u):=by
 intro pins s σ H D I h
 obtain ⟨M,h,hM⟩:=h
 refine wpAny_execs_cons (thn (h1 pins s σ H { D with nx:=M } I h) fun f s1 q => ?_)
 cases f with
 | next =>
  obtain ⟨σ',H',I',q⟩:=q
  exact h2 pins s1 σ' H' D I' (hM σ' H' q)
 | ret v=>exact q
 | brk=>exact q
 | cont=>exact q
theorem zaM {scope:Scope} {N:List Str} {cl:List (Str×Addr)} {C:Addr} {s:Shared} {H:Hp} {fp:List Addr} {pn:List (Addr×Obj)} (h:N.Nodup):(cxComp X scope N cl C s H fp pn).N.Nodup:=h
theorem zb0 {x:Str} {i:Int} {pos:Pos} (hg:Gl X x) (hm:∃ t,X.mg x=some (.int i t)) (hd:(x == ("__debug__" : Str))=false:=by decide):PE X (.Name x pos) (tC (.int i)):=by
 obtain ⟨t,hm⟩:=hm
 exact zfT hg hm ⟨t,rfl⟩ hd
end
theorem ln1 {P:List Value->Prop} {p:Str} (h:∀ a,P [a]):∀ us:List Value,us.length = [p].length->P us
 | [a],_=>h a
theorem ln2 {P:List Value->Prop} {p q:Str} (h:∀ a b,P [a,b]):∀ us:List Value,us.length = [p,q].length->P us
 | [a,b],_=>h a b
theorem ln3 {P:List Value->Prop} {p q r:Str} (h:∀ a b c,P [a,b,c]):∀ us:List Value,us.length = [p,q,r].length->P us
 | [a,b,c],_=>h a b c
theorem ln4 {P:List Value->Prop} {p q r s:Str} (h:∀ a b c d,P [a,b,c,d]):∀ us:List Value,us.length = [p,q,r,s].length->P us
 | [a,b,c,d],_=>h a b c d
theorem ln5 {P:List Value->Prop} {p q r s t:Str} (h:∀ a b c d e,P [a,b,c,d,e]):∀ us:List Value,us.length = [p,q,r,s,t].length->P us
 | [a,b,c,d,e],_=>h a b c d e
structure Callee (P:Program) (w:World) (K:W.Frag) (mg:Str->Option Value) (base:Heap) (x:Str) (k:Nat) (ps:List Str) (sp:Sp):Prop where
 ex:∃ f fd,FnOk P w K mg base CX0 k f fd ps sp/\mg x=some (.ref f)/\PySem.W.keepIn K (.ref f)=true/\Binds K fd ps []/\∃ o,K.lookup f=some o/\o.data = .func fd
structure DefAt (K:W.Frag) (mg:Str->Option Value) (x:Str) (st:Stmt):Prop where
 ex:∃ f fd,Fun K x x st f fd/\mg x=some (.ref f)
theorem def_mk {K:W.Frag} {mg:Str->Option Value} {h:Heap} {x:Str} {st:Stmt} {f:Addr} {oc:Value} {od an:Option Addr} {osl:Array (Option Value)} {kV doc pm cdv ct:Value} (X:K.In h) (G:h.Ns mainGlobals mg)
  (a:PySem.W.nsIn K mainGlobals x=some (some (.ref f)))
  (l:K.lookup f=some ⟨oc,od,.func (PySem.W.fnOf x x (defArgs st) (defBody st) (defScope st) .none kV doc pm an cdv ct),osl⟩)
  (c:PySem.W.codeIn K cdv x=true) (k:PySem.W.keepIn K (.ref f)=true):DefAt K mg x st:=⟨f,_,zf7 l c k,PySem.W.mg_of X G a⟩
theorem int_mk {K:W.Frag} {mg:Str->Option Value} {h:Heap} {x:Str} {i:Int} {t:Tok} (X:K.In h) (G:h.Ns mainGlobals mg) (a:PySem.W.nsIn K mainGlobals x=some (some (.int i t))):∃ t,mg x=some (.int i t):=⟨t,PySem.W.mg_of X G a⟩
section
variable {P:Program} {w:World} {K:W.Frag} {mg:Str->Option Value} {base:Heap}
theorem DefAt.callee {x:Str} {st:Stmt} {N ps:List Str} {k:Nat} {sp:Sp} (D:DefAt K mg x st) (S:FnScope N ps (defScope st))
  (hb:∀ (kV doc pm:Value) (an:Option Addr) (cdv ct:Value) (us:List Value),us.length=ps.length->bindArgs (PySem.W.fnOf x x (defArgs st) (defBody st) (defScope st) .none kV doc pm an cdv ct) ⟨us,[]⟩=pure (ps.zip us))
  (len:∀ vs H Q E,sp vs H Q E->vs.length=ps.length)
  (hbody:∀ (f:Addr) (cdv:Value) (A:Around) (outer:List Env) (s:Shared) (H:Hp) (vs:List V) (Q:VK) (E:XK),Room k (A.deeper (envOfC x (defScope st) s.heap.objs.size f cdv))->sp vs H Q E ->
   ∃ t,PSs (cxOf CX0 P w K mg base N x (defScope st) f cdv A outer s H E).nox (defBody st) t/\t { nx:=fun _ H'=>Q .non H',rt:=Q } (start N vs) H):Callee P w K mg base x (k + 1) ps sp:=by
 obtain ⟨f,fd,F,m⟩:=D.ex
 obtain ⟨oc,od,kV,doc,pm,an,cdv,ct,osl,e,lk,hcd⟩:=id F.ex
 exact ⟨f,fd,F.ok S len (fun cdv A outer s H vs Q E hr h=>hbody f cdv A outer s H vs Q E hr h),m,F.kp,F.binds hb,_,lk,rfl⟩
end
section
variable {X:Cx} {x:Str} {k:Nat} {ps:List Str} {sp:Sp} {p pos:Pos} {e:Expr} {es:List Expr} {t:TA}
theorem zaD (C:Callee X.prog X.w X.K X.mg X.base x k ps sp) (hr:Room k X.A) (hg:Gl X x) (ha:PA X (e :: es) t) (hdb:(x == ("__debug__" : Str))=false:=by decide)
  (he:starEach (e :: es) X.env=(false,eval e X.env) :: starEach es X.env:=by rfl) (hpl:(backTo pos (starEach es X.env)).any (·.1)=false:=by rfl):PE X (.Call (.Name x p) (e :: es) [] pos) (tCall sp [] E0 t):=by
 obtain ⟨f,fd,F,hm,hk,hb,_⟩:=C.ex
 exact zfU F hr hg hm hk hb .nil zc1 ha hdb he hpl
end
structure Bn (mg:Str->Option Value):Prop where
 n_len:mg "len" = none
 n_all:mg "all" = none
 n_any:mg "any" = none
 n_max:mg "max" = none
 n_min:mg "min" = none
 n_sum:mg "sum" = none
 n_sorted:mg "sorted" = none
 n_isinstance:mg "isinstance" = none
 n_int:mg "int" = none
 n_bool:mg "bool" = none
 n_str:mg "str" = none
 n_list:mg "list" = none
 n_tuple:mg "tuple" = none
 n_dict:mg "dict" = none
 n_set:mg "set" = none
 n_range:mg "range" = none
 n_reversed:mg "reversed" = none
 n_repr:mg "repr" = none
 n_abs:mg "abs" = none
 n_enumerate:mg "enumerate" = none
 n_zip:mg "zip" = none
theorem bn_mk {K:W.Frag} {mg:Str->Option Value} {h:Heap} (X:K.In h) (G:h.Ns mainGlobals mg)
  (a_len:PySem.W.nsIn K mainGlobals "len" = some none)
  (a_all:PySem.W.nsIn K mainGlobals "all" = some none)
  (a_any:PySem.W.nsIn K mainGlobals "any" = some none)
  (a_max:PySem.W.nsIn K mainGlobals "max" = some none)
  (a_min:PySem.W.nsIn K mainGlobals "min" = some none)
  (a_sum:PySem.W.nsIn K mainGlobals "sum" = some none)
  (a_sorted:PySem.W.nsIn K mainGlobals "sorted" = some none)
  (a_isinstance:PySem.W.nsIn K mainGlobals "isinstance" = some none)
  (a_int:PySem.W.nsIn K mainGlobals "int" = some none)
  (a_bool:PySem.W.nsIn K mainGlobals "bool" = some none)
  (a_str:PySem.W.nsIn K mainGlobals "str" = some none)
  (a_list:PySem.W.nsIn K mainGlobals "list" = some none)
  (a_tuple:PySem.W.nsIn K mainGlobals "tuple" = some none)
  (a_dict:PySem.W.nsIn K mainGlobals "dict" = some none)
  (a_set:PySem.W.nsIn K mainGlobals "set" = some none)
  (a_range:PySem.W.nsIn K mainGlobals "range" = some none)
  (a_reversed:PySem.W.nsIn K mainGlobals "reversed" = some none)
  (a_repr:PySem.W.nsIn K mainGlobals "repr" = some none)
  (a_abs:PySem.W.nsIn K mainGlobals "abs" = some none)
  (a_enumerate:PySem.W.nsIn K mainGlobals "enumerate" = some none)
  (a_zip:PySem.W.nsIn K mainGlobals "zip" = some none)
  : Bn mg:=⟨PySem.W.mg_none_of X G a_len,PySem.W.mg_none_of X G a_all,PySem.W.mg_none_of X G a_any,PySem.W.mg_none_of X G a_max,PySem.W.mg_none_of X G a_min,PySem.W.mg_none_of X G a_sum,PySem.W.mg_none_of X G a_sorted,PySem.W.mg_none_of X G a_isinstance,PySem.W.mg_none_of X G a_int,PySem.W.mg_none_of X G a_bool,PySem.W.mg_none_of X G a_str,PySem.W.mg_none_of X G a_list,PySem.W.mg_none_of X G a_tuple,PySem.W.mg_none_of X G a_dict,PySem.W.mg_none_of X G a_set,PySem.W.mg_none_of X G a_range,PySem.W.mg_none_of X G a_reversed,PySem.W.mg_none_of X G a_repr,PySem.W.mg_none_of X G a_abs,PySem.W.mg_none_of X G a_enumerate,PySem.W.mg_none_of X G a_zip⟩
theorem DefAt.entry {P:Program} {w:World} {K:W.Frag} {mg:Str->Option Value} {x p:Str} {st:Stmt} {k:Nat} {sp:Sp} {fa:Addr} (D:DefAt K mg x st) (hfa:mg x=some (.ref fa))
  (hb:∀ (kV doc pm:Value) (an:Option Addr) (cdv ct v:Value),bindArgs (PySem.W.fnOf x x (defArgs st) (defBody st) (defScope st) .none kV doc pm an cdv ct) ⟨[v],[]⟩=pure [(p,v)])
  (C:∀ base:Heap,Callee P w K mg base x k [p] sp) :
  ∃ fd:FuncData,(∀ (s:Shared) (v:Value),BindsTo s fd ⟨[v],[]⟩ [(p,v)])/\∀ base:Heap,K.In base->base.Ns mainGlobals mg->FnOk P w K mg base CX0 k fa fd [p] sp:=by
 obtain ⟨f,fd,F,m⟩:=D.ex
 rw [m] at hfa
 cases hfa
 obtain ⟨oc,od,kV,doc,pm,an,cdv,ct,osl,rfl,lk,hcd⟩:=F.ex
 refine ⟨_,fun s v => .of_eq (hb kV doc pm an cdv ct v),fun base _ _ => ?_⟩
 obtain ⟨f',fd',G,m',_,_,o,lo,ed⟩:=(C base).ex
 rw [m] at m'
 cases m'
 rw [lk] at lo
 cases lo
 cases ed
 exact G
structure Fly (B:Heap) (l:List Env) (x:Addr) (c fl:Value) (h:Heap):Prop where
 stay:B.StaysIn h
 new:B.get? x=none
 frs:h.FunFrames B l
 obj:∃ (oe:Obj) (vs:Array Value) (T:Addr) (oT:Obj) (ts:Array Value),h.get? x=some oe/\(oe.cls=c/\oe.dict=none)/\oe.data = .fields vs/\vs[1]?=some (.ref T)/\vs[2]?=some .none/\B.get? T=none/\T≠x/\h.get? T=some oT/\oT.data = .fields ts/\ts[3]?=some fl
structure Fresh (B:Heap) (l:List Env) (x:Addr) (c:Value) (h:Heap):Prop where
 stay:B.StaysIn h
 new:B.get? x=none
 frs:h.FunFrames B l
 obj:∃ (oe:Obj) (vs:Array Value),h.get? x=some oe/\(oe.cls=c/\oe.dict=none)/\oe.data = .fields vs/\vs[1]?=some .none/\vs[2]?=some .none
section
variable {M:Model} {A:Around} {E:Value->Shared->Prop} {s:Shared} {B:Heap} {l outer:List Env} {env:Env} {x L:Addr} {c:Value}
theorem dict_mapFields (o:Obj) (f:Array Value->Array Value):(o.mapFields f).dict=o.dict:=by
 unfold Obj.mapFields
 split <;> rfl
theorem zaF {h:Heap} {a b:Addr} {o:Obj} {vs:Array Value} {f:Array Value->Array Value} (ha:h.get? a=some o) (hd:o.data = .fields vs) :
  (h.update a (Obj.mapFields f)).get? a=some (o.mapFields f)/\(b≠a->(h.update a (Obj.mapFields f)).get? b=h.get? b) :=
 ⟨Heap.get?_update_self _ ha (Obj.isFreed_of_fields (Obj.data_mapFields hd f)),fun hb=>Heap.get?_update_other _ _ (Ne.symm hb)⟩
theorem zej {oe:Obj} {vs:Array Value} {head:Value} {hadNext:Bool} {Q:Unit->Shared->Prop} (hfr:A.frames=some (env :: outer)) (hl:s.heap.FunFrames B (env :: outer)) (hf:env.frame=some L)
  (st:B.StaysIn s.heap) (nx:B.get? x=none) (hx:s.heap.get? x=some oe) (hc:oe.cls=c/\oe.dict=none) (hd:oe.data = .fields vs) (h2:vs[2]?=some .none)
  (k:∀ h',Fly B (env :: outer) x c (rawInt L) h'->s.heap.UpToSlots h'->Q () { s with heap:=h' }) :
  wpAny M A (do let a <- frameOf env; let pl <- entryPlaceOf L hadNext; let b <- EntryCells.newEntry head a .none (rawInt L) .none pl; setField (.ref x) 1 b) Q E s:=by
 have hsz:2 < vs.size:=(Array.getElem?_eq_some_iff.mp h2).1
 have xnf:x ∉ (env :: outer).filterMap (·.frame):=fun hm=>by
  obtain ⟨_,o,ho,hno⟩:=hl.mem hm
  rw [hx] at ho
  cases ho
  exact hno vs hd
 refine wpAny_bind (wpAny_frameOf_fun hfr hl hf fun g1 so=>wpAny_bind (wpAny_entryPlaceOf fun pl hpl => ?_))
 unfold EntryCells.newEntry newFields
 refine wpAny_bind (wpAny_newObj_type ?_ (hpl.sizeOk5 _ _ _ _ _))
 have hx1:g1.get? x=some oe:=(so.2.1 x xnf).trans hx
 have st1:B.StaysIn g1:=fun b o hb=>by
  refine (so.2.1 b fun hm => ?_).trans (st b o hb)
  have:=(hl.mem hm).1
  rw [hb] at this
  cases this
 have big:x < g1.objs.size:=Heap.lt_size hx1
 generalize hnew:({ cls := .type "traceback",dict:=none,data := .fields ([head,.ref L,.none,rawInt L,.none] ++ (if pl.isEmpty then List.replicate 6 Value.none else pl)).toArray }:Obj)=tb
 have hx2:(g1.push tb).get? x=some oe:=Heap.get?_push_of_some tb hx1
 refine wpAny_setField hx2 hd (by omega) (k _ ?_ ?_)
 ·have tx:g1.objs.size≠x:=Nat.ne_of_gt big
  obtain ⟨e1,e2⟩:=zaF (b:=g1.objs.size) (f:=fun a=>a.setIfInBounds 1 (Value.ref g1.objs.size)) hx2 hd
  have hT:(g1.push tb).get? g1.objs.size=some tb:=Heap.get?_push_size g1 (by rw [<- hnew]; rfl)
  refine ⟨fun b o hb => ?_,nx,hl.of_keeps fun b o hb hno => ?_,_,_,g1.objs.size,tb,_,e1,⟨(Obj.cls_mapFields _ _).trans hc.1,(dict_mapFields _ _).trans hc.2⟩,Obj.data_mapFields hd _,(by show (vs.setIfInBounds 1 (Value.ref g1.objs.size))[1]?=_; simp [show 1 < vs.size by omega]),?_,st1.fresh,tx,(e2 tx).trans hT,by rw [<- hnew],?_⟩
  ·obtain ⟨_,e3⟩:=zaF (b:=b) (f:=fun a=>a.setIfInBounds 1 (Value.ref g1.objs.size)) hx2 hd
   refine (e3 fun z => ?_).trans (Heap.get?_push_of_some tb (st1 b o hb))
   rw [z,nx] at hb
   cases hb
  ·have bx:b≠x:=fun z=>by
    rw [z,hx] at hb
    cases hb
    exact hno vs hd
   obtain ⟨sl,hs⟩:=so.2.2 b o hb
   obtain ⟨_,e3⟩:=zaF (b:=b) (f:=fun a=>a.setIfInBounds 1 (Value.ref g1.objs.size)) hx2 hd
   exact ⟨_,(e3 bx).trans (Heap.get?_push_of_some tb hs),rfl⟩
  ·rw [Array.getElem?_setIfInBounds_ne (by decide)]
   exact h2
  ·rcases hpl with rfl | ⟨_,_,_,_,_,_,_,rfl⟩ <;> rfl
 ·intro b o hb hno
  have bx:b≠x:=fun z=>by
   rw [z,hx] at hb
   cases hb
   exact hno vs hd
  obtain ⟨sl,hs⟩:=so.2.2 b o hb
  obtain ⟨_,e3⟩:=zaF (b:=b) (f:=fun a=>a.setIfInBounds 1 (Value.ref g1.objs.size)) hx2 hd
  exact ⟨sl,(e3 bx).trans (Heap.get?_push_of_some tb hs)⟩
theorem zcA {fl:Value} {Q:Unit->Shared->Prop} (F:Fly B l x c fl s.heap) (k:∀ h',Fly B l x c .none h'->s.heap.UpToSlots h'->Q () { s with heap:=h' }):wpAny M A (setFlight (.ref x) none) Q E s:=by
 obtain ⟨oe,vs,T,oT,ts,hx,hc,hd,h1,h2,nT,tx,hT,dT,h3⟩:=F.obj
 have hsz:3 < ts.size:=(Array.getElem?_eq_some_iff.mp h3).1
 unfold setFlight
 refine wpAny_bind (wpAny_field hx hd h1 ?_)
 rw [if_pos (by simp)]
 refine wpAny_setField hT dT hsz (k _ ?_ ?_)
 ·have e:∀ b,b≠T->(s.heap.update T (Obj.mapFields (·.setIfInBounds 3 ((none:Option Addr).elim Value.none fun f=>rawInt f)))).get? b=s.heap.get? b:=fun b hb=>(zaF hT dT).2 hb
  refine ⟨fun b o hb=>(e b fun z => ?_).trans (F.stay b o hb),F.new,F.frs.of_keeps fun b o hb hno=>⟨o,(e b fun z => ?_).trans hb,rfl⟩,oe,vs,T,_,_,(e x (Ne.symm tx)).trans hx,hc,hd,h1,h2,nT,tx,(zaF (b:=T) hT dT).1,Obj.data_mapFields dT _,by simp [hsz]⟩
  ·rw [z,nT] at hb; cases hb
  ·rw [z,hT] at hb; cases hb; exact hno ts dT
 ·intro b o hb hno
  refine ⟨o.slots,((zaF hT dT).2 fun z => ?_).trans hb⟩
  rw [z,hT] at hb; cases hb; exact hno ts dT
theorem zfo {Q:Unit->Shared->Prop} (hfr:A.frames=some (env :: outer)) (hf:env.frame=some L) (F:Fly B (env :: outer) x c .none s.heap)
  (k:∀ h',Fly B (env :: outer) x c (rawInt L) h'->s.heap.UpToSlots h'->Q () { s with heap:=h' }):wpAny M A (noteFrame (.ref x) env) Q E s:=by
 obtain ⟨oe,vs,T,oT,ts,hx,hc,hd,h1,h2,nT,tx,hT,dT,h3⟩:=F.obj
 have hsz:3 < ts.size:=(Array.getElem?_eq_some_iff.mp h3).1
 unfold noteFrame
 simp only [hf]
 refine wpAny_bind (wpAny_field hx hd h1 ?_)
 rw [if_pos (by simp)]
 refine wpAny_bind (wpAny_field hT dT h3 ?_)
 rw [if_neg (by simp [rawInt])]
 refine wpAny_bind (wpAny_setField hT dT hsz ?_)
 have e:∀ b,b≠T->(s.heap.update T (Obj.mapFields (·.setIfInBounds 3 Value.none))).get? b=s.heap.get? b:=fun b hb=>(zaF hT dT).2 hb
 have nf:∀ b o,s.heap.get? b=some o->(∀ vs,o.data ≠ .fields vs)->b≠T:=fun b o hb hno z=>by
  rw [z,hT] at hb; cases hb; exact hno ts dT
 refine zej hfr (F.frs.of_keeps fun b o hb hno=>⟨o,(e b (nf b o hb hno)).trans hb,rfl⟩) hf (fun b o hb=>(e b fun z => ?_).trans (F.stay b o hb)) F.new ((e x (Ne.symm tx)).trans hx) hc hd h2 fun h' F' u=>k h' F' fun b o hb hno => ?_
 ·rw [z,nT] at hb; cases hb
 ·exact u b o ((e b (nf b o hb hno)).trans hb) hno
theorem fresh_note {Q:Unit->Shared->Prop} (hfr:A.frames=some (env :: outer)) (hf:env.frame=some L) (F:Fresh B (env :: outer) x c s.heap)
  (k:∀ h',Fly B (env :: outer) x c (rawInt L) h'->s.heap.UpToSlots h'->Q () { s with heap:=h' }):wpAny M A (noteFrame (.ref x) env) Q E s:=by
 obtain ⟨oe,vs,hx,hc,hd,h1,h2⟩:=F.obj
 unfold noteFrame
 simp only [hf]
 refine wpAny_bind (wpAny_field hx hd h1 ?_)
 rw [if_neg (by decide)]
 exact zej hfr F.frs hf F.stay F.new hx hc hd h2 k
theorem Fly.tail {fl:Value} {h:Heap} (F:Fly B (env :: outer) x c fl h):Fly B outer x c fl h:=⟨F.stay,F.new,F.frs.2.2,F.obj⟩
theorem fly_leave {Q:Unit->Shared->Prop} (hfr:A.frames=some (env :: outer)) (hf:env.frame=some L) (F:Fly B (env :: outer) x c .none s.heap)
  (k:∀ h',Fly B outer x c .none h'->s.heap.UpToSlots h'->Q () { s with heap:=h' }):wpAny M A (leaving env (.ref x)) Q E s:=by
 unfold leaving
 exact wpAny_bind (zfo hfr hf F fun h1 F1 u1=>zcA (s:={ s with heap:=h1 }) F1 fun h2 F2 u2=>k h2 F2.tail (u1.trans u2))
theorem fresh_leave {Q:Unit->Shared->Prop} (hfr:A.frames=some (env :: outer)) (hf:env.frame=some L) (F:Fresh B (env :: outer) x c s.heap)
  (k:∀ h',Fly B outer x c .none h'->s.heap.UpToSlots h'->Q () { s with heap:=h' }):wpAny M A (leaving env (.ref x)) Q E s:=by
 unfold leaving
 exact wpAny_bind (fresh_note hfr hf F fun h1 F1 u1=>zcA (s:={ s with heap:=h1 }) F1 fun h2 F2 u2=>k h2 F2.tail (u1.trans u2))
end
section
variable {P:Program} {w:World}
theorem ObjOk.there {H:Hp} {h:Heap} {a:Addr} {o:HO} (x:ObjOk P w H h a o):∃ ob,h.get? a=some ob:=by
 cases o with
 | lst xs=>obtain ⟨_,_,_,_,e⟩:=x; exact ⟨_,e⟩
 | tup xs=>obtain ⟨_,_,_,o,e,_⟩:=x; exact ⟨o,e⟩
 | dK kvs=>obtain ⟨_,_,_,_,o,_,_,e,_⟩:=x; exact ⟨o,e⟩
 | dT kvs=>obtain ⟨_,_,_,_,o,_,_,e,_⟩:=x; exact ⟨o,e⟩
 | set S n=>obtain ⟨o,_,_,_,e,_⟩:=x; exact ⟨o,e⟩
 | ins C dx fs=>obtain ⟨_,_,_,e,_⟩:=x; exact ⟨_,e⟩
 | own y=>exact x
 | xd fs=>obtain ⟨_,⟨o,_,_,e,_⟩,_⟩:=x; exact ⟨o,e⟩
 | rng lo hi=>obtain ⟨_,_,_,e⟩:=x; exact ⟨_,e⟩
 | frz ob u=>obtain ⟨e,_⟩:=x; exact ⟨_,e⟩
 | tbl ps=>exact ⟨_,(show h.get? a=some _ from x)⟩
 | met f y=>exact ⟨_,(show h.get? a=some _ from x)⟩
 | ext φ => obtain ⟨_,e,_⟩:=x; exact e
noncomputable def CX1 (P:Program) (w:World):CXT:=fun outer H s E e s'=>∃ (x:Addr) (c:Value) (B:Heap) (H':Hp),e = .ref x/\Fly B outer x c .none s'.heap/\s'.os=s.os/\AllBare s'.gens/\Un (frs outer) [] H H' s.heap s'.heap/\HOk P w H' s'.heap/\H' x=none /\
 (∀ b o,H' b=some o->∃ ob,B.get? b=some ob)/\(∀ b o,s.heap.get? b=some o->b ∉ frs outer->∃ ob,B.get? b=some ob)/\E c none H'
theorem zeI {B h h':Heap} {H:Hp} (ok:HOk P w H h) (st:B.StaysIn h) (st':B.StaysIn h') (inB:∀ b o,H b=some o->∃ ob,B.get? b=some ob):HOk P w H h':=fun a o e=>by
 refine (ok a o e).stay (fun b u hb q => ?_) (fun _ q=>q) fun _ _ q=>q
 have ⟨ob,hB⟩:∃ ob,B.get? b=some ob:=by
  rcases hb with z | z
  ·rw [z]; exact inB a o e
  ·exact inB b _ z
 have:=st b ob hB
 rw [q] at this
 cases this
 exact st' b _ hB
theorem zf8 {B h0 h h':Heap} {fs:List Addr} {H H':Hp} (u:Un fs [] H H' h0 h) (st:B.StaysIn h) (st':B.StaysIn h') (up:h.UpToSlots h') (inB:∀ b o,h0.get? b=some o->b ∉ fs->∃ ob,B.get? b=some ob)
  (hfs:∀ b∈fs,∀ o,h.get? b=some o->∀ vs,o.data ≠ .fields vs):Un fs [] H H' h0 h' where
 keep:=fun b o e n hb hx=>by
  obtain ⟨ob,hB⟩:=inB b o e hb
  have q:=u.keep b o e n hb hx
  have:=st b ob hB
  rw [q] at this
  cases this
  exact st' b _ hB
 slot:=fun b o e n hb hx=>by
  obtain ⟨sl,q⟩:=u.slot b o e n hb hx
  obtain ⟨sl',q'⟩:=up b _ q (hfs b hb _ q)
  exact ⟨sl',q'⟩
 free:=u.free
 there:=fun b o e hx=>by
  by_cases hb:b∈fs
  ·obtain ⟨o',q⟩:=u.there b o e hx
   obtain ⟨sl,q'⟩:=up b o' q (hfs b hb o' q)
   exact ⟨_,q'⟩
  ·obtain ⟨ob,hB⟩:=inB b o e hb
   exact ⟨ob,st' b ob hB⟩
 tups:=u.tups
 frzs:=u.frzs
 tbls:=u.tbls
theorem zcB {B h:Heap} {l:List Env} (f:h.FunFrames B l):∀ b∈frs l,∀ o,h.get? b=some o->∀ vs,o.data ≠ .fields vs:=fun b hb o e vs=>by
 obtain ⟨_,o',e',hno⟩:=f.mem hb
 rw [e] at e'
 cases e'
 exact hno vs
theorem zc3 {X:Cx} {pins:List (Addr×Obj)} {σ : St} {H H':Hp} {s:Shared} {h':Heap} (I:Inv X pins σ H s) (hex:X.ex = []) (u:Un (frs X.stack) [] H H' s.heap h'):Un X.fs [] X.H₀ H' X.s₀.heap h':=by
 have nl:∀ b o,X.s₀.heap.get? b=some o->b≠X.env.locals:=fun b o e=>Nat.ne_of_lt (Nat.lt_of_lt_of_le (Heap.lt_size e) I.ok.above)
 have nst:∀ b o,X.s₀.heap.get? b=some o->b ∉ X.fs->b ∉ frs X.stack:=fun b o e hb z=>(List.mem_cons.mp (I.stkSub b z)).elim (nl b o e) hb
 have B:=I.base
 rw [hex] at B
 refine ⟨fun b o e n hb hx=>u.keep b o (B.keep b o e n hb hx) (B.free b o e n hx) (nst b o e hb) hx,fun b o e n hb hx => ?_,fun b o e n hx => ?_,fun b o e hx => ?_,fun b xs e=>u.tups b xs (B.tups b xs e),fun b o v e=>u.frzs b o v (B.frzs b o v e),fun b ps e => ?_⟩
 ·obtain ⟨sl,e1⟩:=B.slot b o e n hb hx
  obtain ⟨sl',e2⟩:=u.any e1 (B.free b o e n hx) hx
  exact ⟨sl',e2⟩
 ·obtain ⟨o',e1⟩:=B.there b o e hx
  exact u.free b o' e1 (B.free b o e n hx) hx
 ·obtain ⟨o',e1⟩:=B.there b o e hx
  exact u.there b o' e1 hx
 ·obtain ⟨m1,e1⟩:=B.tbls b ps e
  obtain ⟨m2,e2⟩:=u.tbls b _ e1
  exact ⟨m1 ++ m2,by rw [e2,Array.append_assoc]⟩
theorem zbh {K:W.Frag} {mg:Str->Option Value} {base:Heap} {N:List Str} {qual:Str} {scope:Scope} {f:Addr} {cd:Value} {A:Around} {outer:List Env} {s₀ : Shared} {H₀ : Hp} {E:XK} :
  Passes (CX1 P w) (cxOf (CX1 P w) P w K mg base N qual scope f cd A outer s₀ H₀ E) E:=by
 intro pins σ H s e s' I h
 obtain ⟨x,c,B,H',rfl,F,ho,hg,u,ok,nx,inB,old,q⟩:=h
 have hfr:(A.deeper (envOfC qual scope s₀.heap.objs.size f cd)).frames=some (envOfC qual scope s₀.heap.objs.size f cd :: outer):=I.ok.frames
 have ut:Un (frs outer) [] H₀ H' s₀.heap s'.heap:=zc3 I rfl u
 have old':∀ b o,s₀.heap.get? b=some o->b ∉ frs outer->∃ ob,B.get? b=some ob:=fun b o e hb=>by
  obtain ⟨o',e1⟩:=I.base.there b o e (by show b ∉ ([]:List Addr); simp)
  refine old b o' e1 fun z => ?_
  rcases List.mem_cons.mp (I.stkSub b z) with z | z
  ·exact absurd (Nat.lt_of_lt_of_le (Heap.lt_size e) I.ok.above) (by rw [z]; exact Nat.lt_irrefl _)
  ·exact hb z
 show wpAny (model P w) _ (leaving _ (.ref x)) _ _ s'
 refine fly_leave hfr rfl F fun h' F' up=>⟨x,c,B,H',rfl,F',(show s'.os=s₀.os from ho.trans I.os),hg,zf8 ut F.stay F'.stay up old' (zcB F.tail.frs),zeI ok F.stay F'.stay inB,nx,inB,old',q⟩
theorem pass_no {X:Cx} {E:XK} (hE:∀ c d H,¬ E c d H):Passes (CX1 P w) X E:=fun _ _ _ _ _ _ _ h=>by
 obtain ⟨_,_,_,_,_,_,_,_,_,_,_,_,_,q⟩:=h
 exact (hE _ _ _ q).elim
theorem zaA {X:Cx}:Passes (CX1 P w) X E0:=pass_no fun _ _ _ h=>h
theorem raise_out {K:W.Frag} {mg:Str->Option Value} {base:Heap} {N:List Str} {qual:Str} {scope:Scope} {f:Addr} {cd:Value} {A:Around} {outer:List Env} {s₀ : Shared} {H₀ : Hp} {E:XK} {pins:List (Addr×Obj)} {σ : St} {H:Hp} {s s':Shared} {x:Addr} {c:Value} {args:List Value}
  (I:Inv (cxOf (CX1 P w) P w K mg base N qual scope f cd A outer s₀ H₀ E) pins σ H s) (hx:Heap.MadeExcOf s.heap s'.heap x c args) (ho:s'.os=s.os) (hg:AllBare s'.gens) (q:E c none H) :
  (cxOf (CX1 P w) P w K mg base N qual scope f cd A outer s₀ H₀ E).xe (.ref x) s':=by
 have hfr:(A.deeper (envOfC qual scope s₀.heap.objs.size f cd)).frames=some (envOfC qual scope s₀.heap.objs.size f cd :: outer):=I.ok.frames
 have hin:∀ env∈envOfC qual scope s₀.heap.objs.size f cd :: outer,∀ a,env.frame=some a->a∈frs (envOfC qual scope s₀.heap.objs.size f cd :: outer):=fun env he a ha=>List.mem_filterMap.mpr ⟨env,he,ha⟩
 have st:(PySem.W.hideAll s.heap (frs (envOfC qual scope s₀.heap.objs.size f cd :: outer))).StaysIn s'.heap:=fun b o e=>hx.keeps b o (PySem.W.of_hideAll _ e)
 have nx:(PySem.W.hideAll s.heap (frs (envOfC qual scope s₀.heap.objs.size f cd :: outer))).get? x=none:=by
  cases e:(PySem.W.hideAll s.heap (frs (envOfC qual scope s₀.heap.objs.size f cd :: outer))).get? x with
  | none=>rfl
  | some o =>
   have:=PySem.W.of_hideAll _ e
   rw [hx.new] at this
   cases this
 have fr0:s.heap.FunFrames (PySem.W.hideAll s.heap (frs (envOfC qual scope s₀.heap.objs.size f cd :: outer))) (envOfC qual scope s₀.heap.objs.size f cd :: outer):=PySem.W.funFrames_hide I.stack hin
 obtain ⟨t,hobj,_,_⟩:=hx.there
 have F:Fresh (PySem.W.hideAll s.heap (frs (envOfC qual scope s₀.heap.objs.size f cd :: outer))) (envOfC qual scope s₀.heap.objs.size f cd :: outer) x c s'.heap :=
  ⟨st,nx,fr0.of_keeps fun b o hb _=>⟨o,hx.keeps b o hb,rfl⟩,_,_,hobj,⟨rfl,rfl⟩,rfl,rfl,rfl⟩
 have inB:∀ b o,s.heap.get? b=some o->b ∉ frs (envOfC qual scope s₀.heap.objs.size f cd :: outer)->∃ ob,(PySem.W.hideAll s.heap (frs (envOfC qual scope s₀.heap.objs.size f cd :: outer))).get? b=some ob:=fun b o e hb=>⟨o,PySem.W.hideAll_get _ e hb⟩
 have trk:∀ b o,H b=some o->∃ ob,(PySem.W.hideAll s.heap (frs (envOfC qual scope s₀.heap.objs.size f cd :: outer))).get? b=some ob:=fun b o e=>by
  have lt:=I.hok.lt e
  cases e2:s.heap.get? b with
  | none =>
   exfalso
   have ok:=I.hok b o e
   obtain ⟨ob,hob⟩:=ok.there
   rw [e2] at hob
   cases hob
  | some ob =>
   refine inB b ob e2 fun z => ?_
   have:=I.stkFree b z
   rw [e] at this
   cases this
 have old:∀ b o,s₀.heap.get? b=some o->b ∉ frs outer->∃ ob,(PySem.W.hideAll s.heap (frs (envOfC qual scope s₀.heap.objs.size f cd :: outer))).get? b=some ob:=fun b o e hb=>by
  obtain ⟨o',e1⟩:=I.base.there b o e (by show b ∉ ([]:List Addr); simp)
  refine inB b o' e1 fun z => ?_
  rcases List.mem_cons.mp (I.stkSub b z) with z | z
  ·exact absurd (Nat.lt_of_lt_of_le (Heap.lt_size e) I.ok.above) (by rw [z]; exact Nat.lt_irrefl _)
  ·exact hb z
 have u0:Un (frs outer) [] H₀ H s₀.heap s.heap:=zc3 I rfl Un.refl
 have u1:Un (frs outer) [] H₀ H s₀.heap s'.heap:=u0.trans (Un.kept hx.keeps)
 have ok1:HOk P w H s'.heap:=I.hok.kept hx.keeps
 have nxH:H x=none:=by
  cases e:H x with
  | none=>rfl
  | some o =>
   obtain ⟨ob,hob⟩:=(I.hok x o e).there
   rw [hx.new] at hob
   cases hob
 show wpAny (model P w) _ (leaving _ (.ref x)) _ _ s'
 exact fresh_leave hfr rfl F fun h' F' up=>⟨x,c,_,H,rfl,F',(show s'.os=s₀.os from ho.trans I.os),hg,zf8 u1 F.stay F'.stay up old (zcB F.frs.2.2),zeI ok1 F.stay F'.stay trk,nxH,trk,old,q⟩
end
theorem entry_unchain:entryFor table "proto.unchain" = some Builtin.«proto.unchain» := entryFor_of_tree (by kernel_rfl)
section
variable {prog:Program} {w:World} {A:Around} {E:Value->Shared->Prop} {s:Shared}
theorem raiseNew_h {α : Type} {x e:Addr} {ox oe:Obj} {vs xs:Array Value} {Q : α -> Shared->Prop} (hh:A.handled=some (.ref e)) (hx:s.heap.get? x=some ox) (dx:ox.data = .fields xs) (hs:2 < xs.size) (ne:e≠x)
  (he:s.heap.get? e=some oe) (de:oe.data = .fields vs) (h2:vs[2]?=some .none)
  (h:E (.ref x) { s with heap:=s.heap.update x (Obj.mapFields (·.setIfInBounds 2 (.ref e))) }):wpAny (model prog w) A (raiseNew (.ref x):Sem α) Q E s:=by
 unfold raiseNew
 refine wpAny_bind (wpAny_handled ?_)
 rw [hh]
 dsimp only
 rw [if_pos (by simpa using ne)]
 refine wpAny_bind (wpAny_holding (wpAny_runValue (codeAny_builtin entry_unchain ?_)))
 unfold Builtin.«proto.unchain»
 dsimp only
 refine wpAny_bind (wpAny_field he de h2 ?_)
 rw [if_pos (by decide)]
 refine wpAny_pure ?_
 dsimp only
 refine wpAny_bind ?_
 unfold updateField
 refine wpAny_bind (wpAny_load hx ?_)
 rw [dx]
 dsimp only
 rw [if_pos hs]
 refine wpAny_update hx ?_
 exact wpAny_throw h
theorem range_end_h {it e:Addr} {oe:Obj} {vs:Array Value} {x left step:Int} {Q:Option Value->Shared->Prop} (hh:A.handled=some (.ref e)) (he:s.heap.get? e=some oe) (de:oe.data = .fields vs) (h2:vs[2]?=some .none)
  (hit:IsRangeIter s.heap it x left step) (hleft:left<=0)
  (hQ:∀ h',Heap.ExtBut it s.heap h'->Q none { s with heap:=h' }):wpAny (model prog w) A (pyNext (.ref it)) Q E s:=by
 have ty:s.TypeIs (.ref it) "range_iterator" := ⟨_,hit,rfl⟩
 unfold pyNext
 refine wpAny_bind (wpAny_attempt (wpAny_callSpecial?_slot (name:=Str.ofString "__next__") ty F.slot_range_iterator_next (wpAny_call_entry F.slot_range_iterator_next ty F.entry_range_iterator_next (?_:wpAny _ _ (field (.ref it) 0 >>= _) _ _ s) (F.args_range_iterator_next_1 _))))
 refine wpAny_bind (wpAny_field hit rfl (x:=rawInt x) rfl (?_:wpAny _ _ (field (.ref it) 1 >>= _) _ _ s))
 refine wpAny_bind (wpAny_field hit rfl (x:=rawInt left) rfl (?_:wpAny _ _ (field (.ref it) 2 >>= _) _ _ s))
 refine wpAny_bind (wpAny_field hit rfl (x:=rawInt step) rfl (?_:wpAny _ _ (if left<=0 then _ else _) _ _ s))
 rw [if_pos hleft]
 refine wpAny_bind (wpAny_rule (wpAny_bind (?_:wpAny _ _ (newExc (.type "StopIteration") [] >>= _) _ _ _)))
 refine wpAny_bind (?_:wpAny _ _ (newTuple [] >>= _) _ _ _)
 simp only [newTuple]
 refine wpAny_bind (wpAny_newObj_type (wpAny_bind (m:=firstArgMember _ _) (wpAny_of_eq (a:=Value.none) (by first | rfl | (simp only [firstArgMember]; rfl)) (wpAny_newObj_type ?_ (by size_fits)))) (by size_fits))
 refine raiseNew_h (A:=A.in1) (e:=e) (oe:=oe) (vs:=vs) (show A.in1.handled=some (.ref e) from hh) (Heap.get?_push_size _ rfl) rfl (by rw [Array.size_append]; exact Nat.lt_of_lt_of_le (show 2 < 6 by decide) (Nat.le_add_right _ _)) ?_ (Heap.get?_push_of_some _ (Heap.get?_push_of_some _ he)) de h2 ?_
 ·rw [Heap.size_push]
  exact Nat.ne_of_lt (Nat.lt_succ_of_lt (Heap.lt_size he))
 ·refine wpAny_bind (wpAny_isInstance (T := "StopIteration") (b:=true) ⟨_,Heap.get?_update_self _ (Heap.get?_push_size _ rfl) rfl,rfl⟩ isSubtype_stop ?_)
  refine wpAny_pure (hQ _ fun b o hb hbo => ?_)
  rw [Heap.get?_update_other _ _ ?_]
  ·exact Heap.get?_push_of_some _ (Heap.get?_push_of_some _ hbo)
  ·rw [Heap.size_push]
   exact Nat.ne_of_gt (Nat.lt_succ_of_lt (Heap.lt_size hbo))
end
noncomputable def QH (e:Addr) (oe:Obj) (Y:Cx):Prop:=Y.A.handled=some (.ref e)/\(e,oe)∈Y.pn/\∃ vs,oe.data = .fields vs/\vs[2]?=some .none
section
variable {X:Cx} {tg:Expr} {e:Addr} {oe:Obj}
theorem QH.comp {scope:Scope} {N:List Str} {cl:List (Str×Addr)} {C:Addr} {s:Shared} {H:Hp} {fp:List Addr} {pins:List (Addr×Obj)} (q:QH e oe X):QH e oe (cxComp X scope N cl C s H fp (X.pn ++ pins)) :=
 ⟨q.1,List.mem_append_left _ q.2.1,q.2.2⟩
theorem range_item_q {it:Addr} {lo:Int} {n i:Nat} {pins:List (Addr×Obj)} {s:Shared} {σ : St} {H:Hp} {E:Value->Shared->Prop} (I:Inv X pins σ H s) (hf:∀ b ∈ [it],FpOk X pins H b)
  (st:IsRangeIter s.heap it (lo + (i:Nat) * 1) ((n:Int) - (i:Nat)) 1) (hg:i < n) :
  wpAny (model X.prog X.w) X.A (pyNext (.ref it)) (fun r s1=>∃ u,r=some u /\
   wpAny (model X.prog X.w) X.A (letOwnedTupleGo tg (.ref it) u) (fun _ s2=>∃ x H',Inv X pins σ H' s2/\RelV x u/\(Itr lo n).yld i H x H'/\IsRangeIter s2.heap it (lo + ((i + 1:Nat):Int) * 1) ((n:Int) - ((i + 1:Nat):Int)) 1/\∀ b ∈ [it],H' b=none) E s1) E s:=by
 obtain ⟨f0,f1,f2,f3,f4,f5⟩:=hf it (by simp)
 refine wpAny_pyNext_range_item st (by omega) fun h' st' sb => ?_
 have I1:Inv X pins σ H { s with heap:=h',toks:=s.toks + 1 }:=I.turned (fun b o hb e=>(sb.2 b hb).trans e) f0 f1 f3 f4 f5
 have st2:IsRangeIter h' it (lo + ((i + 1:Nat):Int) * 1) ((n:Int) - ((i + 1:Nat):Int)) 1:=by
  have e1:lo + ((i + 1:Nat):Int) * 1=lo + (i:Nat) * 1 + 1:=by omega
  have e2:(n:Int) - ((i + 1:Nat):Int)=(n:Int) - (i:Nat) - 1:=by omega
  rw [e1,e2]; exact st'
 refine ⟨_,rfl,zf5 (s:={ s with heap:=h',toks:=s.toks + 1 }) (n := "range_iterator") st2 rfl rfl (by decide) ⟨.int (lo + i),H,I1,⟨s.toks,?_⟩,⟨rfl,rfl⟩,st2,fun b hb=>(hf b hb).1⟩⟩
 rw [Int.mul_one]
theorem trn_range {P:Program} {w:World} {K:W.Frag} (it:Addr) (lo:Int) (n:Nat):Trn P w K (QH e oe) tg (Itr lo n) [it] it (fun i h=>IsRangeIter h it (lo + (i:Nat) * 1) ((n:Int) - (i:Nat)) 1) where
 obj:=fun i h st b hb=>by
  have e:b=it:=by simpa using hb
  subst e
  exact ⟨_,st,fun v z=>by
   have z':Data.fields _=Data.cell v:=z
   cases z'⟩
 keep:=fun i h h' st k=>k it (by simp) _ st
 steps:=fun Y hP hw hK hz=>⟨fun i pins s σ H E I hf st hg=>range_item_q I hf st hg,fun i pins s σ H E I hf st hg=>by
  obtain ⟨hh,hm,vs,de,h2⟩:=hz
  obtain ⟨f0,f1,f2,f3,f4,f5⟩:=hf it (by simp)
  exact range_end_h hh (I.pin (e,oe) (List.mem_append_left _ hm)).1 de h2 st (by have:n<=i:=hg; omega) fun h' eb=>⟨rfl,I.turned (t':=s.toks) (fun b o hb e=>eb b o hb e) f0 f1 f3 f4 f5⟩⟩
 self:=fun _ _ _ _ _ st h=>wpAny_pyIter_rangeiter st h
theorem range_itq {pins:List (Addr×Obj)} {σ : St} {H:Hp} {s:Shared} {R:It->Hp->Prop} {E:Value->Shared->Prop} {lo hi:Int} {t u v:Tok} {tk:Nat} (I:Inv X pins σ H s) (h1 : -(2 ^ 62)<=lo) (h2:lo < 2 ^ 62) (h3 : -(2 ^ 62)<=hi) (h4:hi < 2 ^ 62)
  (q:R (Itr lo (hi - lo).toNat) H):wpAny (model X.prog X.w) X.A (pyIter (.ref s.heap.objs.size)) (PIEq (QH e oe) X pins σ tg R) E { s with heap:=s.heap.push { cls := .type "range",data := .fields #[.int lo t,.int hi u,.int 1 v] },toks:=tk }:=by
 refine wpAny_pyIter_range (IsRange.new ..) (small_one h1 h2 h3 h4) ?_
 have I1:Inv X pins σ H { s with heap:=s.heap.push { cls := .type "range",data := .fields #[.int lo t,.int hi u,.int 1 v] },toks:=tk }:=I.kept fun b o e=>Heap.get?_push_of_some _ e
 refine ⟨(s.heap.push { cls := .type "range",data := .fields #[.int lo t,.int hi u,.int 1 v] }).objs.size,[(s.heap.push { cls := .type "range",data := .fields #[.int lo t,.int hi u,.int 1 v] }).objs.size],_,_,H,rfl,
  I1.kept (t':=tk) fun b o e=>Heap.get?_push_of_some _ e,trn_range _ lo (hi - lo).toNat,?_,fun b hb => ?_,q⟩
 ·have e1:lo + ((0:Nat):Int) * 1=lo:=by simp
  have e2:(((hi - lo).toNat:Nat):Int) - ((0:Nat):Int)=Builtin.Range.rangeSize lo hi 1:=by rw [rangeSize_one]; split <;> omega
  show IsRangeIter _ _ (lo + ((0:Nat):Int) * 1) ((((hi - lo).toNat:Nat):Int) - ((0:Nat):Int)) 1
  rw [e1,e2]
  exact Heap.get?_push_size _ rfl
 ·have e:b=(s.heap.push { cls := .type "range",data := .fields #[.int lo t,.int hi u,.int 1 v] }).objs.size:=by simpa using hb
  subst e
  exact I1.fpOk (Nat.le_refl _) (I1.hok.fresh (Nat.le_refl _))
theorem pi_range1q {a:Expr} {ta:TA} {p pos:Pos} (hg:Gl X "range") (hm:X.mg "range" = none) (ha:PA X [a] ta) (hs:starEach [a] X.env = [(false,eval a X.env)]:=by rfl):PIq (QH e oe) X tg (.Call (.Name "range" p) [a] [] pos) (iRng1 ta):=by
 intro pins s σ H R I h
 refine Call_ (zea I hg hm boot_range (PyProof.Rows.callWith_type1 (thnE (ha pos pins s σ H _ I h) fun us s1 vs H1 I1 r1 q1 => ?_) hs rfl))
 obtain ⟨j,e,q1,q2,q⟩:=q1
 subst e
 cases r1 with
 | cons r rr =>
  cases rr
  obtain ⟨t,rfl⟩:=r
  exact call_range_1 (range_itq I1 (by omega) (by omega) q1 q2 (by simpa using q))
end
structure RoomH (k:Nat) (A:Around) (e:Addr):Prop where
 hd:A.handled=some (.ref e)
 dp:A.depth + 3 * k + 5 < recursionLimit
 un:A.units + 16 * k + 200 < cLine
theorem Room.mark {k:Nat} {A:Around} {e:Addr} (r:Room k A):RoomH k (A.mark (some (.ref e))) e:=⟨rfl,r.dp,r.un⟩
theorem RoomH.depth {k:Nat} {A:Around} {e:Addr} (r:RoomH k A e):A.depth < recursionLimit:=by have:=r.dp; omega
structure FnOkH (P:Program) (w:World) (K:W.Frag) (mg:Str->Option Value) (base:Heap) (e:Addr) (oe:Obj) (k:Nat) (f:Addr) (fd:FuncData) (ps:List Str) (sp:Sp):Prop where
 len:∀ vs H Q E,sp vs H Q E->vs.length=ps.length
 run:∀ (A:Around) (outer:List Env) (s:Shared) (H:Hp) (args:Args) (us:List Value) (vs:List V) (Q:VK),RoomH k A e->Env0 P w K mg base A outer s H->s.heap.get? e=some oe->H e=none->e ∉ frs outer->(∀ v,oe.data ≠ .cell v) ->
  BindsTo s fd args (ps.zip us)->Vals vs us->sp vs H Q E0->codeAny (model P w) A (.call (.ref f) args) (CR CX0 outer P w H s Q E0) s
noncomputable def cxH (P:Program) (w:World) (K:W.Frag) (mg:Str->Option Value) (base:Heap) (N:List Str) (qual:Str) (scope:Scope) (f:Addr) (cd:Value) (A:Around) (outer:List Env) (s:Shared) (H:Hp) (e:Addr) (oe:Obj):Cx :=
 { cxOf CX0 P w K mg base N qual scope f cd A outer s H E0 with calm:=false,pn := [(e,oe)],xe:=fun _ _=>False }
theorem cxH_q {P:Program} {w:World} {K:W.Frag} {mg:Str->Option Value} {base:Heap} {N:List Str} {qual:Str} {scope:Scope} {f:Addr} {cd:Value} {A:Around} {outer:List Env} {s:Shared} {H:Hp} {e:Addr} {oe:Obj} {vs:Array Value}
  (hh:A.handled=some (.ref e)) (de:oe.data = .fields vs) (h2:vs[2]?=some .none):QH e oe (cxH P w K mg base N qual scope f cd A outer s H e oe):=⟨hh,List.mem_singleton.mpr rfl,vs,de,h2⟩
theorem fn_ofH {P:Program} {w:World} {K:W.Frag} {mg:Str->Option Value} {base:Heap} {e:Addr} {oe:Obj} {k:Nat} {f:Addr} {name qual:Str} {params:Arguments} {body:List Stmt} {scope:Scope} {dV kV doc pm cdv ct oc:Value} {an od:Option Addr}
  {osl:Array (Option Value)} {N ps:List Str} {sp:Sp} (lk:K.lookup f=some ⟨oc,od,.func (PySem.W.fnOf name qual params body scope dV kV doc pm an cdv ct),osl⟩) (hcd:PySem.W.codeIn K cdv qual=true) (S:FnScope N ps scope)
  (len:∀ vs H Q E,sp vs H Q E->vs.length=ps.length)
  (hbody:∀ (A:Around) (outer:List Env) (s:Shared) (H:Hp) (vs:List V) (Q:VK),A.handled=some (.ref e)->sp vs H Q E0 ->
   ∃ t,PSs (cxH P w K mg base N qual scope f cdv A outer s H e oe) body t/\t { nx:=fun _ H'=>Q .non H',rt:=Q } (start N vs) H) :
  FnOkH P w K mg base e oe (k + 1) f (PySem.W.fnOf name qual params body scope dV kV doc pm an cdv ct) ps sp:=by
 refine ⟨len,fun A outer s H args us vs Q hr e0 he hn hne hnc hb r hsp => ?_⟩
 have hl:=len _ _ _ _ hsp
 have KX:K.In s.heap:=e0.mod.kin.keeps fun b o e=>(e0.bs b o e).1
 have lim:s.heap.NoLimit:=e0.mod.nolimit.keeps fun b o e=>(e0.bs b o e).1
 have hkind:∀ y∈ps.zip us,scope.names.lookup y.1=some .local\/(scope.names.lookup y.1=some .cell/\((cellsFrom (s.heap.objs.size + 1) scope.names []).lookup y.1).isSome=true):=fun ⟨n,v⟩ hy=>by
  rcases S.par n (List.of_mem_zip hy).1 with q | q
  ·exact .inl q
  ·exact .inr ⟨q,PySem.W.cellsFrom_some _ _ _ (.inl q)⟩
 refine codeAny_call_function hr.depth (KX _ _ lk) rfl S.co S.gen rfl (PySem.W.codeRec_of KX hcd) (hb _ _ _ _ ?_)
 refine wpAny_newFunctionEnv_cells S.kind hkind fun env hen s1 x => ?_
 subst hen
 refine ⟨lim.keeps x.toInCall.keep,codeAny_func ?_⟩
 obtain ⟨t,ht,hq⟩:=hbody A outer s H vs Q hr.hd hsp
 have I0:Inv (cxOf CX0 P w K mg base N qual scope f cdv { A with handled:=none } outer s H E0) [] (start N vs) H s1 :=
  zee S rfl ⟨e0.frames,e0.mod,e0.bs,e0.bsz,e0.funs,e0.frf,e0.hok,e0.bare⟩ hl r x
 have I:Inv (cxH P w K mg base N qual scope f cdv A outer s H e oe) [] (start N vs) H s1:=by
  refine ⟨⟨I0.ok.mod,I0.ok.kind,I0.ok.glob,I0.ok.blt,I0.ok.above,I0.ok.inj,I0.ok.has,I0.ok.cab,(fun z=>absurd z Bool.false_ne_true),Around.frames_deeper e0.frames,I0.ok.stk,I0.ok.exf,I0.ok.bs,I0.ok.bsz,I0.ok.noex,I0.ok.exfs,I0.ok.funs,I0.ok.frf⟩,
   I0.os,I0.bare,I0.base,I0.loc,I0.cell,I0.free,I0.freeC,fun p hp => ?_,I0.hok,I0.len⟩
  have e1:p=(e,oe):=by
   rcases List.mem_append.mp hp with z | z
   ·exact List.mem_singleton.mp z
   ·cases z
  subst e1
  exact ⟨x.toInCall.keep _ _ he,hn,Nat.ne_of_lt (Heap.lt_size he),hne,hnc⟩
 refine wpAny_mono (ht [] s1 (start N vs) H _ I hq) (fun fl s' hs => ?_) fun e s' hs=>False.elim hs
 have fin:∀ {σ':St} {H':Hp} {v:V} {u:Value},Inv (cxH P w K mg base N qual scope f cdv A outer s H e oe) [] σ' H' s'->RelV v u->Q v H'->CE outer P w H s Q u s' :=
  fun {σ' H' v u} J rv q=>⟨v,H',J.os,J.bare,J.base,J.hok,rv,q⟩
 cases fl with
 | ret u =>
  obtain ⟨v,σ',H',J,rv,q⟩:=hs
  exact fin J rv q
 | next =>
  obtain ⟨σ',H',J,q⟩:=hs
  exact fin (v:=V.non) (u:=Value.none) J rfl q
 | brk =>
  obtain ⟨_,_,_,q⟩:=hs
  exact False.elim q
 | cont =>
  obtain ⟨_,_,_,q⟩:=hs
  exact False.elim q
section
variable {X:Cx} {k:Nat} {f:Addr} {fd:FuncData} {ps:List Str} {sp:Sp} {x:Str} {p pos:Pos} {ex:Expr} {es:List Expr} {t:TA} {e:Addr} {oe:Obj}
theorem pe_callH (F:FnOkH X.prog X.w X.K X.mg X.base e oe k f fd ps sp) (hr:RoomH k X.A e) (hp:(e,oe)∈X.pn) (hgd:e ∉ frs X.stack) (hg:Gl X x) (hm:X.mg x=some (.ref f)) (hk:PySem.W.keepIn X.K (.ref f)=true) (hb:Binds X.K fd ps [])
  (ha:PA X (ex :: es) t) (hdb:(x == ("__debug__" : Str))=false:=by decide) (he:starEach (ex :: es) X.env=(false,eval ex X.env) :: starEach es X.env:=by rfl) (hpl:(backTo pos (starEach es X.env)).any (·.1)=false:=by rfl) :
  PE X (.Call (.Name x p) (ex :: es) [] pos) (tCall sp [] E0 t):=by
 intro pins s σ H Q I h
 refine wpAny_Call_Name_kw (zcn I hg hm ?_ hdb)
 refine PySem.W.callWith_K (h₀ := X.base) I.ok.mod.kin hk (thnE (ha pos pins s σ H _ I h) fun us s1 vs H1 I1 r q=>⟨I1.kIn,?_⟩) he hpl
 have q':sp vs H1 Q E0:=by simpa using q
 have hl:us.length=ps.length:=by rw [<- r.length]; exact F.len _ _ _ _ q'
 obtain ⟨e1,e2,e3,e4,e5⟩:=I1.pin (e,oe) (List.mem_append_left _ hp)
 have hb':=hb s1 us I1.kIn (by simpa using hl)
 rw [List.append_nil] at hb'
 refine wpAny_call (codeAny_mono (F.run X.A X.stack s1 H1 ⟨us,[]⟩ us vs Q hr I1.env0 e1 e2 hgd e5 hb' r q') fun r s' hq => ?_)
 cases r with
 | error e=>exact False.elim hq
 | ok fl =>
  cases fl with
  | ret u=>exact I1.after hq
  | next=>exact False.elim hq
  | brk=>exact False.elim hq
  | cont=>exact False.elim hq
end
structure Air (P:Program) (w:World) (outer:List Env) (H:Hp) (s:Shared) (E:XK) (B:Heap) (x:Addr) (c:Value) (H':Hp) (fl:Value) (s':Shared):Prop where
 fly:Fly B outer x c fl s'.heap
 os:s'.os=s.os
 bare:AllBare s'.gens
 un:Un (frs outer) [] H H' s.heap s'.heap
 hok:HOk P w H' s'.heap
 nx:H' x=none
 trk:∀ b o,H' b=some o->∃ ob,B.get? b=some ob
 old:∀ b o,s.heap.get? b=some o->b ∉ frs outer->∃ ob,B.get? b=some ob
 e:E c none H'
theorem Air.move {P:Program} {w:World} {outer:List Env} {H:Hp} {s:Shared} {E:XK} {B:Heap} {x:Addr} {c:Value} {H':Hp} {fl fl':Value} {s':Shared} {h':Heap} (a:Air P w outer H s E B x c H' fl s') (F:Fly B outer x c fl' h') (up:s'.heap.UpToSlots h') :
  Air P w outer H s E B x c H' fl' { s' with heap:=h' } :=
 ⟨F,a.os,a.bare,zf8 a.un a.fly.stay F.stay up a.old (zcB a.fly.frs),zeI a.hok a.fly.stay F.stay a.trk,a.nx,a.trk,a.old,a.e⟩
noncomputable def cxTry (X:Cx) (E:XK) (pn:List (Addr×Obj)):Cx :=
 { X with pn:=pn,xe:=fun e s'=>∃ pins σ H s,Inv { X with pn:=pn,xe:=fun _ _=>False } pins σ H s/\CX1 X.prog X.w X.stack H s E e s' }
noncomputable def cxHand (X:Cx) (x:Addr) (ox:Obj) (pn:List (Addr×Obj)):Cx :=
 { X with A:=X.A.mark (some (.ref x)),calm:=false,pn:=(x,ox) :: pn,xe:=fun _ _=>False }
section
variable {X:Cx} {pins:List (Addr×Obj)} {σ : St} {H:Hp} {s:Shared}
theorem zaq {E:XK} {pn:List (Addr×Obj)}:Passes (CX1 X.prog X.w) (cxTry X E pn) E:=fun pins σ H s e s' I h =>
 ⟨pins,σ,H,s,⟨⟨I.ok.mod,I.ok.kind,I.ok.glob,I.ok.blt,I.ok.above,I.ok.inj,I.ok.has,I.ok.cab,I.ok.hd,I.ok.frames,I.ok.stk,I.ok.exf,I.ok.bs,I.ok.bsz,I.ok.noex,I.ok.exfs,I.ok.funs,I.ok.frf⟩,I.os,I.bare,I.base,I.loc,I.cell,I.free,I.freeC,I.pin,I.hok,I.len⟩,h⟩
theorem Inv.other {A:Around} {cm:Bool} {pn:List (Addr×Obj)} {xe:Value->Shared->Prop} {pins':List (Addr×Obj)} (I:Inv X pins σ H s) (hf:A.frames=X.A.frames) (hd:cm=true->A.handled=none)
  (hp:∀ p∈pn ++ pins',s.heap.get? p.1=some p.2/\H p.1=none/\p.1≠X.env.locals/\p.1 ∉ X.fs/\∀ v,p.2.data ≠ .cell v):Inv { X with A:=A,calm:=cm,pn:=pn,xe:=xe } pins' σ H s :=
 ⟨⟨I.ok.mod,I.ok.kind,I.ok.glob,I.ok.blt,I.ok.above,I.ok.inj,I.ok.has,I.ok.cab,hd,hf.trans I.ok.frames,I.ok.stk,I.ok.exf,I.ok.bs,I.ok.bsz,I.ok.noex,I.ok.exfs,I.ok.funs,I.ok.frf⟩,I.os,I.bare,I.base,I.loc,I.cell,I.free,I.freeC,hp,I.hok,I.len⟩
theorem Inv.lost {h':Heap} {m':Str->Option Value} {t':Nat} (I:Inv X pins σ H s) (hn':h'.Ns X.env.locals m') (hs:Heap.SameBut X.env.locals s.heap h'):Inv X pins (List.replicate X.N.length none) H { s with heap:=h',toks:=t' }:=by
 obtain ⟨m,hn,hl⟩:=id I.loc
 obtain ⟨oL,_,_,hoL,_⟩:=id hn
 refine ⟨I.ok,I.os,I.bare,⟨fun b o e n hb hx => ?_,fun b o e n hb hx => ?_,I.base.free,fun b o e hx => ?_,I.base.tups,I.base.frzs,I.base.tbls⟩,⟨m',hn',fun j y v' e1 e2 e3 => ?_⟩,fun y c e => ?_,I.free,I.freeC,fun p hp => ?_,fun b ob e => ?_,by simp⟩
 ·exact (hs.2 b (Nat.ne_of_lt (Nat.lt_of_lt_of_le (Heap.lt_size e) I.ok.above))).trans (I.base.keep b o e n hb hx)
 ·obtain ⟨sl,e1⟩:=I.base.slot b o e n hb hx
  exact ⟨sl,(hs.2 b (Nat.ne_of_lt (Nat.lt_of_lt_of_le (Heap.lt_size e) I.ok.above))).trans e1⟩
 ·obtain ⟨o',e1⟩:=I.base.there b o e hx
  exact ⟨o',(hs.2 b (Nat.ne_of_lt (Nat.lt_of_lt_of_le (Heap.lt_size e) I.ok.above))).trans e1⟩
 ·rw [List.getElem?_replicate] at e2
  split at e2 <;> cases e2
 ·obtain ⟨w',z⟩:=I.cell y c e
  exact ⟨w',z.sameBut hs (I.cne y c e)⟩
 ·obtain ⟨e,n,ne,nf,d⟩:=I.pin p hp
  exact ⟨(hs.2 p.1 ne).trans e,n,ne,nf,d⟩
 ·refine (I.hok b ob e).stay (fun c w' hc q=>(hs.2 c ?_).trans q) (fun _ q=>q) fun _ _ q=>q
  intro hcl
  rw [hcl] at hc
  rcases hc with z | z
  ·rw [<- z,I.free] at e; cases e
  ·rw [I.free] at z; cases z
noncomputable def tTry (X:Cx) (CE:Value) (i:Nat) (tb:XK->TS) (th:Addr->Value->TS):TS:=fun D σ H=>∃ E:XK,tb E D σ H /\
 ∀ c H' x,E c none H'->H' x=none->PySem.W.exmOne X.K c CE=some true/\th x c { nx:=fun _ _=>False,rt:=D.rt,bk:=fun _ _=>False,ct:=fun _ _=>False } ((List.replicate X.N.length none).set i (some (.ref x))) H'
theorem ps_try {body:List Stmt} {cn n:Str} {np hpos pos:Pos} {b₀ : Stmt} {suite:List Stmt} {i:Nat} {CE:Value} {tb:XK->TS} {th:Addr->Value->TS} (hst:X.stack=X.env :: X.outer) (hfr:X.env.frame=some X.env.locals) (hN:X.N.Nodup) (hi:X.N[i]?=some n)
  (hl:X.env.scope.names.lookup n=some .local) (hg:Gl X cn) (hm:X.mg cn=some CE)
  (hb:∀ E pn,PSs (cxTry X E pn) body (tb E))
  (hh:∀ x c ox pn vs,ox.cls=c/\ox.dict=none->ox.data = .fields vs->vs[2]?=some .none->x ∉ frs X.stack->PSs (cxHand X x ox pn) (b₀ :: suite) (th x c))
  (hd:(cn == ("__debug__" : Str))=false:=by decide) :
  PS X (.Try body [.ExceptHandler (some (.Name cn np)) (some n) (b₀ :: suite) hpos] [] [] pos) (tTry X CE i tb th):=by
 intro pins s σ H D I h
 obtain ⟨E,hbd,hex⟩:=h
 have I1:Inv (cxTry X E (X.pn ++ pins)) [] σ H s:=I.other rfl I.ok.hd (by rw [List.append_nil]; exact I.pin)
 have back:∀ {σ' H' s'},Inv (cxTry X E (X.pn ++ pins)) [] σ' H' s'->Inv X pins σ' H' s':=fun {σ' H' s'} J =>
  Inv.other (X:=cxTry X E (X.pn ++ pins)) (A:=X.A) (cm:=X.calm) (pn:=X.pn) (xe:=X.xe) J rfl I.ok.hd fun p hp=>J.pin p (List.mem_append_left _ hp)
 refine wpAny_Try_except (wpAny_mono (hb E (X.pn ++ pins) [] s σ H D I1 hbd) (fun f s1 q => ?_) fun e s1 q => ?_)
 ·cases f with
  | next=>obtain ⟨σ',H',J,q⟩:=q; exact wpAny_execs_nil ⟨σ',H',back J,q⟩
  | ret u=>obtain ⟨v,σ',H',J,r,q⟩:=q; exact ⟨v,σ',H',back J,r,q⟩
  | brk=>obtain ⟨σ',H',J,q⟩:=q; exact ⟨σ',H',back J,q⟩
  | cont=>obtain ⟨σ',H',J,q⟩:=q; exact ⟨σ',H',back J,q⟩
 ·obtain ⟨pins',σ',H1,s0,J,x,c,B,H2,rfl,F,ho,hgn,u,ok,nx,inB,old,q⟩:=q
  have a0:Air X.prog X.w (X.env :: X.outer) H1 s0 E B x c H2 .none s1:=hst ▸ ⟨F,ho,hgn,u,ok,nx,inB,old,q⟩
  have hfrm:X.A.frames=some (X.env :: X.outer):=hst ▸ I.ok.frames
  refine zfo hfrm hfr a0.fly fun h1 F1 u1 => ?_
  have a1:=a0.move F1 u1
  refine zcA a1.fly fun h2 F2 u2 => ?_
  have a2:=a1.move F2 u2
  obtain ⟨hE,hth⟩:=hex c H2 x q nx
  have inv2:∀ {fl s'},Air X.prog X.w (X.env :: X.outer) H1 s0 E B x c H2 fl s'->Inv { X with pn:=X.pn ++ pins,xe:=fun _ _=>False } pins' σ' H2 s':=fun {fl s'} a =>
   J.call' a.os (show Un (frs X.stack) [] H1 H2 s0.heap s'.heap by rw [hst]; exact a.un) a.hok a.bare fun b z=>absurd z (by simp)
  have J2:=inv2 a2
  have xo:x ∉ frs X.stack:=fun z=>by
   rw [hst] at z
   obtain ⟨oe,vs,_,_,_,h1,_,h2,_⟩:=a2.fly.obj
   exact zcB a2.fly.frs x z oe h1 vs h2
  have xl:x≠X.env.locals:=fun z=>xo (by rw [hst]; exact List.mem_filterMap.mpr ⟨X.env,List.mem_cons_self,by rw [z]; exact hfr⟩)
  have xf:x ∉ X.fs:=fun z=>xo (by
   rw [hst]
   obtain ⟨y,hy,e⟩:=List.mem_filterMap.mp z
   exact List.mem_filterMap.mpr ⟨y,List.mem_cons_of_mem _ hy,e⟩)
  have J2m:Inv { X with A:=X.A.mark (some (.ref x)),calm:=false,pn := [],xe:=fun _ _=>False } [] σ' H2 { s1 with heap:=h2 }:=J2.other rfl (fun z=>absurd z Bool.false_ne_true) fun p hp=>absurd hp (by simp)
  refine wpAny_handleBy_cons (codeAny_handlers_test (zcn (X:={ X with A:=X.A.mark (some (.ref x)),calm:=false,pn := [],xe:=fun _ _=>False }) J2m hg hm ?_ hd)) (by intro q; cases q)
  have LT:PySem.W.Looks (model X.prog X.w) h2 (typeOf (.ref x)) c:=by
   obtain ⟨oe,vs,_,_,_,h1,hc,_⟩:=a2.fly.obj
   rw [<- hc.1]
   exact (PySem.W.Looks.ld h1).andThen .now
  refine (PySem.W.exm_one (M:=model X.prog X.w) J2.kIn LT hE).here ?_
  dsimp only
  rw [if_pos rfl]
  refine codeAny_handlers_suite_as ?_
  refine zcA a2.fly fun h3 F3 u3 => ?_
  have a3:=a2.move F3 u3
  have J3:=inv2 a3
  obtain ⟨ox,vs,T,oT,ts,hx,hc,hdx,h1x,h2x,nT,tx,hT,dT,h3x⟩:=a3.fly.obj
  have K3:Inv (cxHand X x ox (X.pn ++ pins)) [] σ' H2 { s1 with heap:=h3 }:=J3.other (A:=X.A.mark (some (.ref x))) (cm:=false) (pn:=(x,ox) :: (X.pn ++ pins)) (xe:=fun _ _=>False) rfl (fun z=>absurd z Bool.false_ne_true) fun p hp=>by
   rw [List.append_nil] at hp
   rcases List.mem_cons.mp hp with z | z
   ·subst z; exact ⟨hx,nx,xl,xf,fun v z=>by rw [hdx] at z; cases z⟩
   ·exact J3.pin p (List.mem_append_left _ z)
  have K3w:=K3.weak (σ':=List.replicate X.N.length none) (by rw [List.length_replicate]; exact K3.len.symm) fun i v e=>by
   rw [List.getElem?_replicate] at e
   split at e <;> cases e
  refine zdt (X:=cxHand X x ox (X.pn ++ pins)) (v:=V.ref x) K3w hN hi (.inl hl) rfl (fun s4 K4 => ?_) (.inr hl)
  refine wpAny_mono (hh x c ox (X.pn ++ pins) vs hc hdx h2x xo [] s4 _ H2 _ K4 hth) (fun f s5 q5 => ?_) fun _ _ z=>False.elim z
  cases f with
  | next=>obtain ⟨_,_,_,z⟩:=q5; exact False.elim z
  | brk=>obtain ⟨_,_,_,z⟩:=q5; exact False.elim z
  | cont=>obtain ⟨_,_,_,z⟩:=q5; exact False.elim z
  | ret u5 =>
   obtain ⟨v,σ5,H5,K5,r5,q5⟩:=q5
   obtain ⟨m5,hn5,_⟩:=id K5.loc
   refine wpAny_nameGoes (env:=X.env) (show X.env.kindOf n=some .local from hl) hn5 (by rw [I.ok.kind]; rfl) fun h6 m6 hn6 sb6 => ?_
   have K6:=K5.lost (t':=s5.toks + 1) hn6 sb6
   refine ⟨v,List.replicate X.N.length none,H5,?_,r5,q5⟩
   exact Inv.other (X:=cxHand X x ox (X.pn ++ pins)) (A:=X.A) (cm:=X.calm) (pn:=X.pn) (xe:=X.xe) K6 rfl I.ok.hd fun p hp=>K6.pin p (List.mem_append_left _ (List.mem_cons_of_mem _ hp))
end
structure ErrCls (K:W.Frag) (D:Addr):Prop where
 ga:PySem.W.findIn K (.ref D) "__getattribute__" = some (some (.builtin "BaseException.__getattribute__"))
 gh:PySem.W.findIn K (.ref D) "__getattr__" = some none
 hc:(PySem.W.clsIn K D).isSome=true
 ha:PySem.W.findIn K (.ref D) "__class__" = some (some (.builtin "object.__class__"))
 hn:PySem.W.specialIn K (.builtin "object.__class__") "__get__" = some (some (.builtin "getset_descriptor.__get__"))
 ht:PySem.W.takesIn K (.builtin "object.__class__")=some true
 hm:PySem.W.mroIn K D (.type "object")=some true
 hb:PySem.W.mroIn K D (.type "BaseException")=some true
theorem find_cls {K:W.Frag} {D:Addr} (E:ErrCls K D) (od:Option Obj):PySem.W.findObj K D od "__class__" = some (.bind (.builtin "getset_descriptor.__get__") (.builtin "object.__class__")):=by
 obtain ⟨cd,hc⟩:=Option.isSome_iff_exists.mp E.hc
 unfold PySem.W.findObj
 rw [hc]
 simp [E.ha,E.hn,E.ht]
section
variable {prog:Program} {w:World} {A:Around} {E:Value->Shared->Prop} {s:Shared} {K:W.Frag} {x D:Addr} {ox:Obj}
theorem exc_check {M:Model} {nameV:Value} {Q:Unit->Shared->Prop} (Er:ErrCls K D) (X:K.In s.heap) (I:PySem.W.InstAt s.heap x ox D none) (hq:Q () s) :
  wpAny M A (checkBuiltinCall "BaseException.__getattribute__" ⟨[.ref x,nameV],[]⟩) Q E s:=by
 have hk:builtinKind "BaseException.__getattribute__" = some .slot:=by decide +kernel
 have hsplit:splitId "BaseException.__getattribute__" = some ("BaseException","__getattribute__"):=by decide +kernel
 have ha:=F.args_bexc_ga (.ref x) nameV
 have L0:=I.type (M:=M)
 have L1:=PySem.W.looks_mroIn (M:=M) X Er.hb
 have LI:PySem.W.Looks M s.heap (isInstance (.ref x) (.type "BaseException")) true:=L0.andThen L1
 obtain ⟨h,g,d,t,os⟩:=s
 simp only [checkBuiltinCall,hk,hsplit]
 refine wpAny_bind (LI.at ?_)
 repeat (any_goals (first | assumption | wp_step))
theorem exc_entry {tk:Tok} {Q:Fin->Shared->Prop} (Er:ErrCls K D) (X:K.In s.heap) (I:PySem.W.InstAt s.heap x ox D none) (hq:Q (.done (.ret (.ref D))) s) :
  wpAny (model prog w) A (Builtin.«object.__getattribute__» ⟨[.ref x,.str "__class__" tk],[]⟩) Q E s:=by
 obtain ⟨h,g,d,t,os⟩:=s
 have L0:=I.type (M:=model prog w)
 have L1:=PySem.W.looks_find (M:=model prog w) X I (find_cls Er none)
 unfold Builtin.«object.__getattribute__»
 refine wpAny_bind (wpAny_of_eq (a:=(.ref x,[.str "__class__" tk])) (by rfl) ?_)
 dsimp only
 refine wpAny_bind (wpAny_pure (wpAny_bind (L0.at (wpAny_bind (L1.at ?_)))))
 show wpAny _ _ (Builtin.ObjectAttr.bindTo (.builtin "getset_descriptor.__get__") (.builtin "object.__class__") (.ref x) (.ref D)) _ _ _
 unfold Builtin.ObjectAttr.bindTo
 dsimp only
 refine wpAny_bind (wpAny_holding (wpAny_call (PySem.W.class_get (s:=⟨h,g,d,t,os⟩) (ox:=ox) (od:=none) X I Er.hm ?_)))
 exact wpAny_pure hq
theorem exc_call {tk:Tok} {R:Result->Shared->Prop} (Er:ErrCls K D) (X:K.In s.heap) (I:PySem.W.InstAt s.heap x ox D none) (hq:R (.ok (.ret (.ref D))) s) :
  codeAny (model prog w) A (.call (.builtin "BaseException.__getattribute__") ⟨[.ref x,.str "__class__" tk],[]⟩) R s :=
 codeAny_call_builtin F.excAttr_ValueError.ga.plain F.entry_bexc_ga (exc_check Er X I (exc_entry Er X I hq))
theorem exc_class {Q:Option Value->Shared->Prop} (Er:ErrCls K D) (X:K.In s.heap) (I:PySem.W.InstAt s.heap x ox D none) (hq:Q (some (.ref D)) { s with toks:=s.toks + 1 }):wpAny (model prog w) A (getAttr? (.ref x) "__class__") Q E s:=by
 obtain ⟨h,g,d,t,os⟩:=s
 have L0:=I.type (M:=model prog w)
 have L1:=PySem.W.looks_findIn (M:=model prog w) X Er.ga
 have L2:=PySem.W.looks_findIn (M:=model prog w) X Er.gh
 have f3:=F.excAttr_ValueError.ga.bind (.ref x)
 unfold getAttr? getAttrBy? getAttrBy
 refine wpAny_bind (wpAny_mkText (wpAny_bind (wpAny_attempt (wpAny_holding (wpAny_bind (L0.at (wpAny_bind (L1.at ?_))))))))
 have hx2:(onTheHeap (Value.ref D) && Value.builtin "BaseException.__getattribute__" == Value.builtin "object.__getattribute__")=false:=by
  have hx1:(Value.builtin "BaseException.__getattribute__" == Value.builtin "object.__getattribute__")=false:=by decide +kernel
  rw [hx1,Bool.and_false]
 dsimp only
 rw [hx2,if_neg Bool.false_ne_true]
 unfold getAttrByItsOwn hookBefore
 refine wpAny_bind ?_
 rw [if_pos (by rfl)]
 refine L2.at ?_
 refine wpAny_bind (wpAny_attempt (wpAny_holding ?_))
 unfold callGetattribute
 rw [if_neg (by decide)]
 unfold boundAndCalled
 refine wpAny_bind ?_
 rw [f3]
 refine wpAny_pure ?_
 refine wpAny_call (exc_call (s:=⟨h,g,d,t + 1,os⟩) Er X I ?_)
 exact PySem.W.handed_on rfl (wpAny_pure hq)
end
theorem isType_cls {K:W.Frag} {D:Addr} {M:Model} {h:Heap} (X:K.In h) (hc:(PySem.W.clsIn K D).isSome=true):PySem.W.Looks M h (isType (.ref D)) true:=by
 obtain ⟨cd,hc⟩:=Option.isSome_iff_exists.mp hc
 unfold PySem.W.clsIn at hc
 split at hc
 ·next ho =>
  intro A Q E s k q
  unfold isType loadHead
  exact wpAny_bind (wpAny_loadPart (k _ _ (X _ _ ho)) (wpAny_pure q))
 ·cases hc
theorem kitx_exc {K:W.Frag} {x D:Addr} {ox:Obj} (Er:ErrCls K D):PySem.W.KitX K (.ref x) (.ref D) (fun h=>PySem.W.InstAt h x ox D none) where
 ty:=fun _ _ _ I=>I.type
 it:=fun _ _ X _=>isType_cls X Er.hc
 ne:=fun h tp dd its n sl X htp=>by
  obtain ⟨cd,hc⟩:=Option.isSome_iff_exists.mp Er.hc
  refine Bool.eq_false_iff.mpr fun q => ?_
  have e:D=tp:=Value.ref.inj (beq_iff_eq.mp q)
  subst e
  unfold PySem.W.clsIn at hc
  split at hc
  ·next ho =>
   have z:=(X _ _ ho).symm.trans htp
   cases z
  ·cases hc
 ca:=fun X I k=>exc_class Er X I k
section
variable {X:Cx}
theorem zaO:CallR X (.builtin "isinstance") (fun xs H Q=>∃ (e C D:Addr) (oe:Obj) (b:Bool),xs = [.ref e,.ref C]/\((e,oe)∈X.pn/\(oe.cls = .ref D/\oe.dict=none)/\∃ vs,oe.data = .fields vs)/\ErrCls X.K D/\PySem.W.kitOne X.K (.ref D) (.ref C)=some b/\Q (.bl b) H):=by
 intro pins s σ H xs us Q I r h
 obtain ⟨e,C,D,oe,b,rfl,⟨hp,⟨hc,hd⟩,vs,hv⟩,Er,hk,q⟩:=h
 obtain ⟨u,u',rfl,ru,ru'⟩:=zgW r
 cases (show u=Value.ref e from ru)
 cases (show u'=Value.ref C from ru')
 have ia:PySem.W.InstAt s.heap e oe D none:=⟨(I.pin (e,oe) (List.mem_append_left _ hp)).1,hc,by unfold PySem.W.notCls; rw [hv],by rw [hd]; trivial⟩
 exact PySem.W.kia_one (kitx_exc (ox:=oe) Er) I.kIn ia hk (fun z=>nomatch z) fun tk=>⟨.bl b,H,I.tok _,rfl,q⟩
end
structure Err (K:W.Frag) (mg:Str->Option Value) (x:Str) (C:Addr):Prop where
 bound:mg x=some (.ref C)
 exc:PySem.W.excIn K C [.type "ValueError",.type "Exception",.type "BaseException",.type "object"] "ValueError.__new__" = true
theorem err_obj {K:W.Frag} {h:Heap} {C:Addr} {bmB:List Value} {newId:String} (X:K.In h) (q:PySem.W.excIn K C bmB newId=true) :
  ∃ bm N nm q bs hdct sn sub ab col dd k0 k1 k2 k3 k5 mN,h.get? C=some (excClassObj nm q C N bs bm hdct sn sub ab col dd k0 k1 k2 k3 k5 newId)/\h.Ns N mN/\mN "__init__" = none/\OwnTail h bmB bm:=by
 unfold PySem.W.excIn at q
 split at q
 ·next dd cd sl ho =>
  split at q
  ·next C' bm k0 k1 k2 k3 n k5 hm hs =>
   simp only [Bool.and_eq_true,beq_iff_eq,Bool.not_eq_true'] at q
   obtain ⟨⟨⟨⟨⟨r1,r2⟩,hdel⟩,ht⟩,hok⟩,hni⟩:=q
   subst r1 r2
   cases cd with
   | mk nm bs mro ns qn hd sn sub ab col del =>
    dsimp only at hm hdel hok hni
    subst hm hdel
    cases sl with
    | mk l =>
     simp only at hs
     subst hs
     exact ⟨bm,ns,nm,qn,bs,hd,sn,sub,ab,col,dd,k0,k1,k2,k3,k5,_,X _ _ ho,.of_isNs (PySem.W.isNs_of_in X hok),PySem.W.nsMap_none_of_in X hok hni,PySem.W.tail_of_in X ht⟩
  ·cases q
 ·cases q
noncomputable def tRaise (E:XK) (C:Addr) (ta:TA):TS:=fun _ σ H=>ta σ H fun vs H1=>vs.length<=sizeLine/\E (.ref C) none H1
section
variable {P:Program} {w:World} {K:W.Frag} {mg:Str->Option Value} {base:Heap} {N:List Str} {qual:Str} {scope:Scope} {f:Addr} {cd:Value} {A:Around} {outer:List Env} {s₀ : Shared} {H₀ : Hp} {E:XK}
theorem zbg {x:Str} {C:Addr} {np cpos pos:Pos} {e:Expr} {es:List Expr} {t:TA} (O:Err K mg x C) (hg:Gl (cxOf (CX1 P w) P w K mg base N qual scope f cd A outer s₀ H₀ E) x)
  (ha:PA (cxOf (CX1 P w) P w K mg base N qual scope f cd A outer s₀ H₀ E) (e :: es) t) (hd:(x == ("__debug__" : Str))=false:=by decide)
  (he:starEach (e :: es) (envOfC qual scope s₀.heap.objs.size f cd)=(false,eval e (envOfC qual scope s₀.heap.objs.size f cd)) :: starEach es (envOfC qual scope s₀.heap.objs.size f cd):=by rfl)
  (hpl:(backTo cpos (starEach es (envOfC qual scope s₀.heap.objs.size f cd))).any (·.1)=false:=by rfl) :
  PS (cxOf (CX1 P w) P w K mg base N qual scope f cd A outer s₀ H₀ E) (.Raise (some (.Call (.Name x np) (e :: es) [] cpos)) none pos) (tRaise E C t):=by
 intro pins s σ H D I h
 obtain ⟨bm,Nn,nm,q,bs,hdct,sn,sub,ab,col,dd,k0,k1,k2,k3,k5,mN,hC,hN,hni,T⟩:=err_obj I.ok.mod.kin O.exc
 refine wpAny_Raise_call_subT (C:=C) (nm:=nm) (q:=q) (N:=Nn) (bs:=bs) (bm:=bm) (hdct:=hdct) (sn:=sn) (sub:=sub) (ab:=ab) (col:=col) (dd:=dd) (k0:=k0) (k1:=k1) (k2:=k2) (k3:=k3) (k5:=k5) (env:=envOfC qual scope s₀.heap.objs.size f cd)
  F.excBase_ValueError (mN:=mN) (T.hasType F.excBase_ValueError.hasBase) (I.ok.hd rfl) ?_ hni (zcn I hg O.bound ⟨rfl,?_⟩ hd)
 ·rw [he]
  show (false || (backTo cpos (starEach es (envOfC qual scope s₀.heap.objs.size f cd))).any (·.1))=false
  rw [hpl]; rfl
 ·have g:=ha cpos pins s σ H _ I h
  change wpAny _ _ (spliced (backTo cpos (starEach (e :: es) (envOfC qual scope s₀.heap.objs.size f cd)))) _ _ s at g
  rw [he] at g ⊢
  refine Calls.evalArgs_plain (thn g fun us s2 ⟨vs,H1,I1,r,hl,q⟩ => ?_)
  exact ⟨rfl,by rw [<- r.length]; exact hl,I1.bk _ _ hC,hN.keeps I1.bk,T.keeps I1.bk,fun h' x hx=>raise_out I1 hx rfl I1.bare q⟩
end
structure Callee1 (P:Program) (w:World) (K:W.Frag) (mg:Str->Option Value) (base:Heap) (x:Str) (k:Nat) (ps:List Str) (sp:Sp):Prop where
 ex:∃ f fd,FnOk P w K mg base (CX1 P w) k f fd ps sp/\mg x=some (.ref f)/\PySem.W.keepIn K (.ref f)=true/\Binds K fd ps []
structure MethAt (K:W.Frag) (C:Addr) (cn m:Str) (st:Stmt):Prop where
 ex:∃ f fd,Fun K m (cn ++ Str.ofString "." ++ m) st f fd/\Meth K C m f
structure Method (P:Program) (w:World) (K:W.Frag) (mg:Str->Option Value) (base:Heap) (C:Addr) (m:Str) (CX:CXT) (k:Nat) (ps:List Str) (sp:Sp):Prop where
 ex:∃ f fd,FnOk P w K mg base CX k f fd ps sp/\Meth K C m f/\Binds K fd ps []
section
variable {P:Program} {w:World} {K:W.Frag} {mg:Str->Option Value} {base:Heap}
theorem Fun.ok1 {x qual:Str} {st:Stmt} {f:Addr} {fd:FuncData} {N ps:List Str} {k:Nat} {sp:Sp} (F:Fun K x qual st f fd) (S:FnScope N ps (defScope st)) (len:∀ vs H Q E,sp vs H Q E->vs.length=ps.length)
  (hbody:∀ (cdv:Value) (A:Around) (outer:List Env) (s:Shared) (H:Hp) (vs:List V) (Q:VK) (E:XK),Room k (A.deeper (envOfC qual (defScope st) s.heap.objs.size f cdv))->sp vs H Q E ->
   ∃ t,PSs (cxOf (CX1 P w) P w K mg base N qual (defScope st) f cdv A outer s H E) (defBody st) t/\t { nx:=fun _ H'=>Q .non H',rt:=Q } (start N vs) H):FnOk P w K mg base (CX1 P w) (k + 1) f fd ps sp:=by
 obtain ⟨oc,od,kV,doc,pm,an,cdv,ct,osl,rfl,lk,hcd⟩:=F.ex
 exact zg2 lk hcd S len fun A outer s H vs Q E hr hsp=>hbody cdv A outer s H vs Q E hr hsp
theorem DefAt.callee1 {x:Str} {st:Stmt} {N ps:List Str} {k:Nat} {sp:Sp} (D:DefAt K mg x st) (S:FnScope N ps (defScope st))
  (hb:∀ (kV doc pm:Value) (an:Option Addr) (cdv ct:Value) (us:List Value),us.length=ps.length->bindArgs (PySem.W.fnOf x x (defArgs st) (defBody st) (defScope st) .none kV doc pm an cdv ct) ⟨us,[]⟩=pure (ps.zip us))
  (len:∀ vs H Q E,sp vs H Q E->vs.length=ps.length)
  (hbody:∀ (f:Addr) (cdv:Value) (A:Around) (outer:List Env) (s:Shared) (H:Hp) (vs:List V) (Q:VK) (E:XK),Room k (A.deeper (envOfC x (defScope st) s.heap.objs.size f cdv))->sp vs H Q E ->
   ∃ t,PSs (cxOf (CX1 P w) P w K mg base N x (defScope st) f cdv A outer s H E) (defBody st) t/\t { nx:=fun _ H'=>Q .non H',rt:=Q } (start N vs) H):Callee1 P w K mg base x (k + 1) ps sp:=by
 obtain ⟨f,fd,F,m⟩:=D.ex
 exact ⟨f,fd,F.ok1 S len (fun cdv A outer s H vs Q E hr h=>hbody f cdv A outer s H vs Q E hr h),m,F.kp,F.binds hb⟩
theorem MethAt.meth1 {cn m:Str} {C:Addr} {st:Stmt} {N ps:List Str} {k:Nat} {sp:Sp} (D:MethAt K C cn m st) (S:FnScope N ps (defScope st))
  (hb:∀ (kV doc pm:Value) (an:Option Addr) (cdv ct:Value) (us:List Value),us.length=ps.length->bindArgs (PySem.W.fnOf m (cn ++ Str.ofString "." ++ m) (defArgs st) (defBody st) (defScope st) .none kV doc pm an cdv ct) ⟨us,[]⟩=pure (ps.zip us))
  (len:∀ vs H Q E,sp vs H Q E->vs.length=ps.length)
  (hbody:∀ (f:Addr) (cdv:Value) (A:Around) (outer:List Env) (s:Shared) (H:Hp) (vs:List V) (Q:VK) (E:XK),Room k (A.deeper (envOfC (cn ++ Str.ofString "." ++ m) (defScope st) s.heap.objs.size f cdv))->sp vs H Q E ->
   ∃ t,PSs (cxOf (CX1 P w) P w K mg base N (cn ++ Str.ofString "." ++ m) (defScope st) f cdv A outer s H E) (defBody st) t/\t { nx:=fun _ H'=>Q .non H',rt:=Q } (start N vs) H):Method P w K mg base C m (CX1 P w) (k + 1) ps sp:=by
 obtain ⟨f,fd,F,m⟩:=D.ex
 exact ⟨f,fd,F.ok1 S len (fun cdv A outer s H vs Q E hr h=>hbody f cdv A outer s H vs Q E hr h),m,F.binds hb⟩
theorem MethAt.meth0 {cn m:Str} {C:Addr} {st:Stmt} {N ps:List Str} {k:Nat} {sp:Sp} (D:MethAt K C cn m st) (S:FnScope N ps (defScope st))
  (hb:∀ (kV doc pm:Value) (an:Option Addr) (cdv ct:Value) (us:List Value),us.length=ps.length->bindArgs (PySem.W.fnOf m (cn ++ Str.ofString "." ++ m) (defArgs st) (defBody st) (defScope st) .none kV doc pm an cdv ct) ⟨us,[]⟩=pure (ps.zip us))
  (len:∀ vs H Q E,sp vs H Q E->vs.length=ps.length)
  (hbody:∀ (f:Addr) (cdv:Value) (A:Around) (outer:List Env) (s:Shared) (H:Hp) (vs:List V) (Q:VK) (E:XK),Room k (A.deeper (envOfC (cn ++ Str.ofString "." ++ m) (defScope st) s.heap.objs.size f cdv))->sp vs H Q E ->
   ∃ t,PSs (cxOf CX0 P w K mg base N (cn ++ Str.ofString "." ++ m) (defScope st) f cdv A outer s H E).nox (defBody st) t/\t { nx:=fun _ H'=>Q .non H',rt:=Q } (start N vs) H):Method P w K mg base C m CX0 (k + 1) ps sp:=by
 obtain ⟨f,fd,F,m⟩:=D.ex
 exact ⟨f,fd,F.ok S len (fun cdv A outer s H vs Q E hr h=>hbody f cdv A outer s H vs Q E hr h),m,F.binds hb⟩
end
section
variable {X:Cx} {x m:Str} {k:Nat} {ps:List Str} {sp:Sp} {p pos apos:Pos} {o e:Expr} {es:List Expr} {ta:TE} {t:TA} {E:XK} {C:Addr} {CX:CXT}
theorem zbj (F:Callee1 X.prog X.w X.K X.mg X.base x k ps sp) (hr:Room k X.A) (hx:Passes (CX1 X.prog X.w) X E) (hg:Gl X x) (ha:PA X (e :: es) t) (hdb:(x == ("__debug__" : Str))=false:=by decide)
  (he:starEach (e :: es) X.env=(false,eval e X.env) :: starEach es X.env:=by rfl) (hpl:(backTo pos (starEach es X.env)).any (·.1)=false:=by rfl):PE X (.Call (.Name x p) (e :: es) [] pos) (tCall sp [] E t):=by
 obtain ⟨f,fd,F,hm,hk,hb⟩:=F.ex
 exact zfU F hr hg hm hk hb .nil hx ha hdb he hpl
theorem zeA {pl:Sem Bool} (he:PE X o ta) (c:Cls X.K C) (F:Method X.prog X.w X.K X.mg X.base C m CX k ps sp) (hr:Room k X.A) (hx:Passes CX X E) (ha:PA X (e :: es) t)
  (hst:starEach (e :: es) X.env=(false,eval e X.env) :: starEach es X.env:=by rfl) (hpl:(backTo pos (starEach es X.env)).any (·.1)=false:=by rfl)
  (ht:eval (.Call (.Attribute o m apos) (e :: es) [] pos) X.env=(do
   let ov <- eval o X.env
   standAt apos.atName
   let (f,first) <- holding [ov] (getMethod ov m pl)
   callWith pos f first (backTo pos (starEach (e :: es) X.env)) (backToKw pos (keywordEach [] X.env))):=by rfl) :
  PE X (.Call (.Attribute o m apos) (e :: es) [] pos) (tMeth C m sp [] E ta t):=by
 obtain ⟨f,fd,F,hm,hb⟩:=F.ex
 exact pe_meth he c hm F hr hb .nil hx ha hst hpl ht
theorem pe_mt0 {pl:Sem Bool} (he:PE X o ta) (c:Cls X.K C) (F:Method X.prog X.w X.K X.mg X.base C m CX k ps sp) (hr:Room k X.A) (hx:Passes CX X E)
  (ht:eval (.Call (.Attribute o m apos) [] [] pos) X.env=(do
   let ov <- eval o X.env
   standAt apos.atName
   let (f,first) <- holding [ov] (getMethod ov m pl)
   callWith pos f first (backTo pos (starEach [] X.env)) (backToKw pos (keywordEach [] X.env))):=by rfl) :
  PE X (.Call (.Attribute o m apos) [] [] pos) (tMeth C m sp [] E ta tNil):=by
 obtain ⟨f,fd,F,hm,hb⟩:=F.ex
 exact pe_meth0 he c hm F hr hb .nil hx ht
end
section
variable {X:Cx}
noncomputable def gLst (K:W.Frag) (n:Nat) (t:TGs):TG:=fun v σ H Q=>∃ a xs,v = .ref a/\SqL K H a xs/\xs.length=n/\t xs σ H Q
theorem zff {es:List Expr} {k:Nat} {t:TGs} {n:Nat} {pos:Pos} (hc:X.calm=true) (h:PGs X es t)
  (hn:(assignEach es X.env).length=n:=by rfl) (hst:(assignEach es X.env).findIdx? (·.1)=none:=by rfl):PG X (.Tuple es k pos) (gLst X.K n t):=by
 intro pins s σ H v u Q I r hw
 obtain ⟨a,xs,e1,hq,hl,hw⟩:=hw
 subst e1
 cases r
 obtain ⟨its,rv,p,hz⟩:=I.list hq
 rw [PyProof.Rows.assign_Tuple]
 refine wpAny_bind (wpAny_standAt ?_)
 unfold unpack
 have hsz:(assignEach es X.env).length=its.toArray.size:=by simp [hn,<- hl,rv.length]
 rw [hsz,hst]
 refine wpAny_bind (wpAny_holding (PySem.W.kun_itemsOf (I.ok.hd hc) p.isList fun h' hx => ?_))
 have I1:Inv X pins σ H { s with heap:=h' }:=I.kept (t':=s.toks) fun b o e=>hx b o (Nat.ne_of_lt (Heap.lt_size e)) e
 exact h pins _ σ H xs _ Q I1 (by simpa using rv) hw
end
mutual
inductive VD (K:W.Frag) (H:Hp):V->PyData->Prop
 | non:VD K H .non .none
 | bl (b:Bool):VD K H (.bl b) (.bool b)
 | int (i:Int):VD K H (.int i) (.int i)
 | str (x:Str):VD K H (.str x) (.str x)
 | lst {a:Addr} {xs:List V} {ds:List PyData}:SqL K H a xs->VDs K H xs ds->VD K H (.ref a) (.list ds)
 | tup {a:Addr} {xs:List V} {ds:List PyData}:SqT K H a xs->VDs K H xs ds->VD K H (.ref a) (.tuple ds)
inductive VDs (K:W.Frag) (H:Hp):List V->List PyData->Prop
 | nil:VDs K H [] []
 | cons {x:V} {d:PyData} {xs:List V} {ds:List PyData}:VD K H x d->VDs K H xs ds->VDs K H (x :: xs) (d :: ds)
end
theorem VDs.map {K:W.Frag} {H:Hp} {α : Type} {f : α -> V} {g : α -> PyData}:∀ {l:List α},(∀ x∈l,VD K H (f x) (g x))->VDs K H (l.map f) (l.map g)
 | [],_ => .nil
 | x :: l,h => .cons (h x List.mem_cons_self) (VDs.map fun y hy=>h y (List.mem_cons_of_mem _ hy))
section
variable {X:Cx} {pins:List (Addr×Obj)} {σ : St} {H:Hp} {s:Shared}
mutual
theorem VD.reads (I:Inv X pins σ H s):∀ {v:V} {d:PyData} {u:Value},VD X.K H v d->RelV v u->∃ as,Reads s.heap u d as
 | _,_,_,.non,r=>by cases r; exact ⟨_,.none⟩
 | _,_,_,.bl b,r=>by cases r; exact ⟨_,.bool b⟩
 | _,_,_,.int i,r=>by obtain ⟨t,rfl⟩:=r; exact ⟨_,.int i t⟩
 | _,_,_,.str x,r=>by obtain ⟨t,rfl⟩:=r; exact ⟨_,.str x t⟩
 | _,_,_,.lst hq hs,r=>by
  cases r
  obtain ⟨its,rv,⟨o,n,e,c,_,d⟩,_⟩:=I.list hq
  obtain ⟨as,ra⟩:=VDs.reads I hs rv
  exact ⟨_,.list e c d (by simpa using ra)⟩
 | _,_,_,.tup hq hs,r=>by
  cases r
  obtain ⟨its,rv,⟨o,e,c,n,d⟩,_⟩:=I.tuple hq
  obtain ⟨as,ra⟩:=VDs.reads I hs rv
  exact ⟨_,.tuple e c d (by simpa using ra)⟩
theorem VDs.reads (I:Inv X pins σ H s):∀ {vs:List V} {ds:List PyData} {us:List Value},VDs X.K H vs ds->Vals vs us->∃ as,ReadsAll s.heap us ds as
 | _,_,_,.nil,r=>by cases r; exact ⟨_,.nil⟩
 | _,_,_,.cons h hs,r=>by
  cases r with
  | cons r rr =>
   obtain ⟨a1,r1⟩:=VD.reads I h r
   obtain ⟨a2,r2⟩:=VDs.reads I hs rr
   exact ⟨_,.cons r1 r2⟩
end
end
section
variable {X:Cx}
noncomputable def rEqD (K:W.Frag) (neg:Bool):R2:=fun x y H Q=>∃ d e,VD K H x d/\VD K H y e/\SeqAt.shaped d=true/\SeqAt.shaped e=true/\Q (.bl (if neg then !PyData.eqv d e else PyData.eqv d e)) H
theorem zfl (hu:X.A.units + 64 < cLine):OpR X (compareOp .Eq) (rEqD X.K false):=by
 intro pins s σ H x y v u Q I rx ry h
 obtain ⟨d,e,hd,he,s1,s2,q⟩:=h
 obtain ⟨a1,r1⟩:=hd.reads I rx
 obtain ⟨a2,r2⟩:=he.reads I ry
 exact eq_dataH r1 r2 s1 s2 hu ⟨.bl _,H,I,rfl,q⟩
theorem op_neD (hu:X.A.units + 64 < cLine):OpR X (compareOp .NotEq) (rEqD X.K true):=by
 intro pins s σ H x y v u Q I rx ry h
 obtain ⟨d,e,hd,he,s1,s2,q⟩:=h
 obtain ⟨a1,r1⟩:=hd.reads I rx
 obtain ⟨a2,r2⟩:=he.reads I ry
 exact ne_dataH r1 r2 s1 s2 hu ⟨.bl _,H,I,rfl,q⟩
theorem zdR:∀ {xs:List Str} {us:List Value},StrsAre us xs->Vals (xs.map V.str) us
 | _,_,.nil => .nil
 | _,_,.cons _ t r => .cons ⟨t,rfl⟩ (zdR r)
theorem zc9 {pins:List (Addr×Obj)} {σ : St} {H:Hp} {s:Shared} {Q:VK} {vs:List Value} {out:Array Value} {ys:List V} (I:Inv X pins σ H s) (hl:ys.length<=sizeLine) (r:Vals ys out.toList)
  (q:Q (.ref (s.heap.objs.size + 1)) (upd H (s.heap.objs.size + 1) (.lst ys))):EP X pins σ Q (.ref (s.heap.objs.size + 1)) { s with heap:=sortedAll s.heap vs out }:=by
 obtain ⟨e,he⟩:=sortedAll_at s.heap vs out
 exact ⟨.ref (s.heap.objs.size + 1),_,I.laid (t':=s.toks) (fun b o=>sortedAll_old) (Nat.le_succ _) (show ObjOk X.prog X.w _ _ _ (.lst ys) from ⟨hl,out.toList,e,r,by simpa using he⟩),rfl,q⟩
theorem zcw:CallR X (.builtin "sorted") (fun xs H Q=>∃ (a:Addr) (ns:List Int),xs = [V.ref a]/\SqL X.K H a (ns.map V.int)/\ns.length < 64/\∀ p (ns':List Int),H p=none->ns'.Perm ns->ns'.Pairwise (· <= ·)->Q (.ref p) (upd H p (.lst (ns'.map V.int)))):=by
 intro pins s σ H xs us Q I r h
 obtain ⟨a,ns,rfl,hq,hb,q⟩:=h
 obtain ⟨u,rfl,ru⟩:=zb5 r
 cases ru
 obtain ⟨its,rv,p,hz⟩:=I.list hq
 have hl:ns.length=its.length:=by have:=rv.length; rwa [List.length_map] at this
 refine sorted_ints p.isList (zdH rv) (by omega) fun out ns' a1 a2 a3 => ?_
 exact zc9 I (by rw [List.length_map,a2.length_eq]; exact Nat.le_trans (Nat.le_of_lt hb) (by decide)) (zcF a1) (q _ ns' (I.hok.fresh (Nat.le_succ _)) a2 a3)
end
theorem zc5:∀ {l:List Value} {ss:List Str},l.length=ss.length->(∀ (j:Nat) (v:Value) (x:Str),l[j]?=some v->ss[j]?=some x->∃ t,v = .str x t)->StrsAre l ss
 | [],[],_,_ => .nil
 | v :: l,x :: ss,hl,h=>by
  obtain ⟨t,rfl⟩:=h 0 v x rfl rfl
  exact .cons _ _ (zc5 (by simpa using hl) fun j u y e1 e2=>h (j + 1) u y (by simpa using e1) (by simpa using e2))
theorem KV.get {κ : Type}:∀ {a:List (κ × V)} {b:List (κ × Value)} {i:Nat} {k : κ} {x:Value},KV a b->b[i]?=some (k,x)->∃ v,a[i]?=some (k,v)/\RelV v x
 | [],_,_,_,_,h,e=>by cases h; simp at e
 | (k',v') :: a,_,i,k,x,h,e=>by
  cases h with
  | cons r rr =>
   cases i with
   | zero =>
    simp at e
    obtain ⟨r1,r2⟩:=r
    simp only at r1
    rw [e] at r1 r2
    exact ⟨v',by rw [r1]; rfl,r2⟩
   | succ i=>exact KV.get (i:=i) rr (by simpa using e)
section
variable {X:Cx}
theorem call_sortedD (hc:X.calm=true):CallR X (.builtin "sorted") (fun xs H Q=>∃ (a:Addr) (kvs:List (Key×V)) (ss:List Str),xs = [V.ref a]/\Rd H a (.dK kvs)/\kvs.map (·.1)=ss.map Sum.inr/\ss.length < 64 /\
  ∀ p (ss':List Str),H p=none->ss'.Perm ss->sortedS ss'=true->Q (.ref p) (upd H p (.lst (ss'.map V.str)))):=by
 intro pins s σ H xs us Q I r h
 obtain ⟨a,kvs,ss,rfl,hq,hk,h64,q⟩:=h
 obtain ⟨u,rfl,ru⟩:=zb5 r
 cases ru
 obtain ⟨hz,lo,vs,kv,hD⟩:=(show ObjOk X.prog X.w H s.heap a (.dK kvs) from hq.ok I.hok)
 obtain ⟨ep,hat⟩:=hD.dictAt
 have hlen:vs.length=ss.length:=by
  have e1:=kv.length
  have e2:=congrArg List.length hk
  rw [List.length_map,List.length_map] at e2
  omega
 have big64:(64:Nat)<=sizeLine:=by decide
 refine Calls.call_function_entry kind_sorted plain_sorted entry_sorted (args_sorted1 _) ?_
 unfold Builtin.«sorted»
 refine wpAny_bind (m:=checkCount "sorted" 1 1 _) (wpAny_pure ?_)
 refine wpAny_bind (PySem.W.kdu_collect (A:=X.A.in1) (PySem.W.kdl_dict (knd:=mixKind X.prog X.w) (kvs:=vs) (ep:=ep) lo) (I.ok.hd hc) hat (by omega) fun h' tk acc hkeep hacc => ?_)
 have hl:acc.toList.length=vs.length:=by rw [Array.length_toList]; exact hacc.1
 have hS:StrsAre acc.toList ss:=by
  refine zc5 (by omega) fun j v x e1 e2 => ?_
  obtain ⟨k,y,e3,hk2⟩:=hacc.2 j v (by rw [<- Array.getElem?_toList]; exact e1)
  obtain ⟨v',e4,_⟩:=kv.get e3
  have e5:(kvs.map (·.1))[j]?=some k:=by rw [List.getElem?_map,e4]; rfl
  rw [hk,List.getElem?_map,e2] at e5
  have e6:Sum.inr x=k:=Option.some.inj e5
  subst e6
  rcases zaJ (show keyIs (Sum.inr x) v=true from hk2) with ⟨i,t,e,_⟩ | ⟨y,t,e,e7⟩
  ·cases e
  ·cases e; exact ⟨t,e7⟩
 refine wpAny_bind (wpAny_newList ?_ (by rw [hl]; omega))
 have hoL:(h'.push (seqObj "list" acc.toList.toArray 0)).get? h'.objs.size=some (seqObj "list" acc.toList.toArray 0):=Heap.get?_push_size _ rfl
 refine wpAny_bind (wpAny_holding (wpAny_call_entry slot_list_sort ⟨_,hoL,rfl⟩ entry_list_sort (list_sort_treeK strKind_oneLt hoL hS.keysOf (fun v₁ v₂ rest e=>keyKind_strs (by rw [<- e]; exact hS)) (by omega) fun st' hp hs=>⟨_,rfl,?_⟩) (args_list_sort _)))
 obtain ⟨ss',a1,a2,a3⟩:=sorted_out_str hS hp hs
 refine wpAny_pure ⟨_,rfl,?_⟩
 obtain ⟨e,he⟩:=sortedHeap_at (out:=(arrOf st').map (·.2)) hoL
 have I1:Inv X pins σ H { s with heap:=h',toks:=tk }:=I.kept hkeep
 have I2:=Inv.laid (o := .lst (ss'.map V.str)) (a:=h'.objs.size) (h':=sortedHeap (h'.push (seqObj "list" acc.toList.toArray 0)) h'.objs.size acc.toList ((arrOf st').map (·.2))) (t':=tk) I1 (fun b o hb=>by
  have lt:=Heap.lt_size hb
  rw [sortedHeap_old (Nat.ne_of_lt lt) (by rw [Heap.size_push]; exact Nat.lt_succ_of_lt lt)]
  exact Heap.get?_push_of_some _ hb) (Nat.le_refl _) (show ObjOk X.prog X.w _ _ _ (.lst (ss'.map V.str)) from ⟨by rw [List.length_map,a2.length_eq]; omega,_,e,zdR a1,by rw [Array.toArray_toList]; exact he⟩)
 exact ⟨.ref h'.objs.size,_,I2,rfl,q _ ss' (I1.hok.fresh (Nat.le_refl _)) a2 a3⟩
end
section
variable {X:Cx} {pins:List (Addr×Obj)} {σ : St} {H:Hp} {s:Shared} {a:Addr} {kvs:List (Key×V)}
end
section
variable {X:Cx} {tg:Expr}
end
structure HCallee (P:Program) (w:World) (K:W.Frag) (mg:Str->Option Value) (base:Heap) (x:Str) (k:Nat) (ps:List Str) (spf:Addr->Value->Sp):Prop where
 ex:∃ f fd,(∀ (e:Addr) (oe:Obj) (c:Value) (vs:Array Value),oe.cls=c/\oe.dict=none->oe.data = .fields vs->vs[2]?=some .none->FnOkH P w K mg base e oe k f fd ps (spf e c)) /\
  mg x=some (.ref f)/\PySem.W.keepIn K (.ref f)=true/\Binds K fd ps []
theorem DefAt.hcallee {P:Program} {w:World} {K:W.Frag} {mg:Str->Option Value} {base:Heap} {x:Str} {st:Stmt} {N ps:List Str} {k:Nat} {spf:Addr->Value->Sp} (D:DefAt K mg x st) (S:FnScope N ps (defScope st))
  (hb:∀ (kV doc pm:Value) (an:Option Addr) (cdv ct:Value) (us:List Value),us.length=ps.length->bindArgs (PySem.W.fnOf x x (defArgs st) (defBody st) (defScope st) .none kV doc pm an cdv ct) ⟨us,[]⟩=pure (ps.zip us))
  (len:∀ e c vs H Q E,spf e c vs H Q E->vs.length=ps.length)
  (hbody:∀ (f:Addr) (cdv:Value) (A:Around) (outer:List Env) (s:Shared) (H:Hp) (vs:List V) (Q:VK) (e:Addr) (oe:Obj) (c:Value) (ws:Array Value),oe.cls=c/\oe.dict=none->oe.data = .fields ws->QH e oe (cxH P w K mg base N x (defScope st) f cdv A outer s H e oe)->spf e c vs H Q E0 ->
   ∃ t,PSs (cxH P w K mg base N x (defScope st) f cdv A outer s H e oe) (defBody st) t/\t { nx:=fun _ H'=>Q .non H',rt:=Q } (start N vs) H):HCallee P w K mg base x (k + 1) ps spf:=by
 obtain ⟨f,fd,F,m⟩:=D.ex
 have hbi:=F.binds hb
 obtain ⟨oc,od,kV,doc,pm,an,cdv,ct,osl,rfl,lk,hcd⟩:=id F.ex
 exact ⟨f,_,fun e oe c ws hc hd h2=>fn_ofH lk hcd S (len e c) fun A outer s H vs Q hh h=>hbody f cdv A outer s H vs Q e oe c ws hc hd (cxH_q hh hd h2) h,m,F.kp,hbi⟩
section
variable {X:Cx} {f:Str} {k k':Nat} {ps:List Str} {spf:Addr->Value->Sp} {p pos:Pos} {e:Expr} {es:List Expr} {t:TA} {x:Addr} {c:Value} {ox:Obj} {pn:List (Addr×Obj)} {vs:Array Value}
theorem pe_hand (C:HCallee X.prog X.w X.K X.mg X.base f k ps spf) (hr:Room k' X.A) (hx:x ∉ frs X.stack) (hc:ox.cls=c/\ox.dict=none) (hd:ox.data = .fields vs) (h2:vs[2]?=some .none) (hk:k<=k') (hg:Gl X f)
  (ha:PA (cxHand X x ox pn) (e :: es) t) (hdb:(f == ("__debug__" : Str))=false:=by decide)
  (he:starEach (e :: es) X.env=(false,eval e X.env) :: starEach es X.env:=by rfl) (hpl:(backTo pos (starEach es X.env)).any (·.1)=false:=by rfl):PE (cxHand X x ox pn) (.Call (.Name f p) (e :: es) [] pos) (tCall (spf x c) [] E0 t):=by
 obtain ⟨fa,fd,F,m,kp,hb⟩:=C.ex
 exact pe_callH (X:=cxHand X x ox pn) (F x ox c vs hc hd h2) (Room.mark (hr.mono hk)) List.mem_cons_self hx hg m kp hb ha hdb he hpl
end
structure Maker (P:Program) (w:World) (K:W.Frag) (mg:Str->Option Value) (base:Heap) (x:Str) (C:Addr) (CX:CXT) (k:Nat) (ps:List Str) (sp:Sp):Prop where
 ex:∃ f fd,Mk K C f/\FnOk P w K mg base CX k f fd ps sp/\mg x=some (.ref C)/\Binds K fd ps []
theorem pe_mk0 {X:Cx} {x:Str} {C:Addr} {CX:CXT} {k:Nat} {ps:List Str} {sp:Sp} {E:XK} {p pos:Pos} (M:Maker X.prog X.w X.K X.mg X.base x C CX k ps sp) (hr:Room (k + 1) X.A) (hx:Passes CX X E) (hg:Gl X x) (hdb:(x == ("__debug__" : Str))=false:=by decide) :
  PE X (.Call (.Name x p) [] [] pos) (tMake C sp [] E tNil):=by
 obtain ⟨f,fd,M,F,m,b⟩:=M.ex
 exact pe_make0 M F hr hg m b .nil hx hdb
section
variable {Y:Cx}
theorem op_in_seq' (K:W.Frag) (h:Y.K=K):OpR Y (compareOp .In) (rIn K false):=by subst h; exact zcL
theorem op_notIn_seq' (K:W.Frag) (h:Y.K=K):OpR Y (compareOp .NotIn) (rIn K true):=by subst h; exact zbM
theorem zbS (K:W.Frag) (h:Y.K=K):IxR Y (rIxL K):=by subst h; exact zaC
theorem zeD (K:W.Frag) (h:Y.K=K):IxR Y (rIxT K):=by subst h; exact za6
end
noncomputable def isStar:Expr->Bool
 | .Starred _ _=>true
 | _=>false
theorem star_cons {e:Expr} (es:List Expr) (env:Env) (h:isStar e=false):starEach (e :: es) env=(false,eval e env) :: starEach es env:=by
 cases e <;> first | rfl | cases h
structure QA (X:Cx) (es:List Expr) (t:TA):Prop where h:PA X es t
structure QE (X:Cx) (e:Expr) (t:TE):Prop where h:PE X e t
section
variable {X:Cx} {e:Expr} {es:List Expr} {te:TE} {t:TA} {pos:Pos}
theorem qe (h:PE X e te):QE X e te:=⟨h⟩
theorem zaw:QA X [] tNil:=⟨zab⟩
theorem zae (ha:QE X e te) (hr:QA X es t) (h:isStar e=false:=by rfl):QA X (e :: es) (tCons te t):=⟨zaa ha.h hr.h (star_cons es X.env h)⟩
theorem za5 {k} (h:QA X es t):QE X (.Tuple es k pos) (tTup t):=⟨zaY h.h⟩
theorem zbd (h:QA X es t):QE X (.List es pos) (tLst t):=⟨zaN h.h⟩
end
structure QS (X:Cx) (st:Stmt) (t:TS):Prop where h:PS X st t
structure QSs (X:Cx) (st:List Stmt) (t:TS):Prop where h:PSs X st t
section
variable {X:Cx} {st:Stmt} {rest:List Stmt} {t u:TS} {a b e:Expr} {ta tb te:TE} {pos:Pos}
theorem qs (h:PS X st t):QS X st t:=⟨h⟩
theorem zey (h:QS X st t):QSs X [st] t:=⟨zaf h.h⟩
theorem qe_ix {r:R2} (hr:IxR X r) (ha:QE X a ta) (hb:QE X b tb) (hs:PlainIx b):QE X (.Subscript a b pos) (tOp r ta tb):=⟨zaz hr ha.h hb.h hs⟩
theorem zc0 {op:Operator} {r:R2} (ho:OpR X (binaryOp op) r) (ha:QE X a ta) (hb:QE X b tb):QE X (.BinOp a op b pos) (tOp r ta tb):=⟨zav ho ha.h hb.h⟩
theorem zay (h:QS X st t) (hr:QSs X rest u):QSs X (st :: rest) (tSeq t u):=⟨zad h.h hr.h⟩
theorem qss_cut (h:QS X st t) (hr:QSs X rest u):QSs X (st :: rest) (tCut t u):=⟨zcj h.h hr.h⟩
theorem zfM (h:QE X e te):QS X (.Return (some e) pos) (tRet te):=⟨zaj h.h⟩
theorem za4 {i:Nat} {x:Str} {pos':Pos} (hN:X.N.Nodup) (hi:X.N[i]?=some x) (hx:Loc X.env.scope x) (he:QE X e te) (hs:swapsWith e (some (.Name x pos')) pos.line X.env=pure false:=by rfl) (hf:X.fn x=true\/X.env.scope.names.lookup x=some .local:=by first | exact .inl rfl | exact .inr rfl | assumption) :
  QS X (.Assign [.Name x pos'] e pos) (tAsg te (gName i)):=⟨zam hN hi hx he.h hs hf⟩
end
theorem DefAt.calleeQ {P:Program} {w:World} {K:W.Frag} {mg:Str->Option Value} {base:Heap} {x:Str} {st:Stmt} {N ps:List Str} {k:Nat} {sp:Sp} (D:DefAt K mg x st) (S:FnScope N ps (defScope st))
  (hb:∀ (kV doc pm:Value) (an:Option Addr) (cdv ct:Value) (us:List Value),us.length=ps.length->bindArgs (PySem.W.fnOf x x (defArgs st) (defBody st) (defScope st) .none kV doc pm an cdv ct) ⟨us,[]⟩=pure (ps.zip us))
  (len:∀ vs H Q E,sp vs H Q E->vs.length=ps.length)
  (hbody:∀ (f:Addr) (cdv:Value) (A:Around) (outer:List Env) (s:Shared) (H:Hp) (vs:List V) (Q:VK) (E:XK),Room k (A.deeper (envOfC x (defScope st) s.heap.objs.size f cdv))->sp vs H Q E ->
   ∃ t,QSs (cxOf CX0 P w K mg base N x (defScope st) f cdv A outer s H E).nox (defBody st) t/\t { nx:=fun _ H'=>Q .non H',rt:=Q } (start N vs) H):Callee P w K mg base x (k + 1) ps sp :=
 D.callee S hb len fun f cdv A outer s H vs Q E hr h=>let ⟨t,q,r⟩:=hbody f cdv A outer s H vs Q E hr h; ⟨t,q.h,r⟩
theorem DefAt.hcalleeQ {P:Program} {w:World} {K:W.Frag} {mg:Str->Option Value} {base:Heap} {x:Str} {st:Stmt} {N ps:List Str} {k:Nat} {spf:Addr->Value->Sp} (D:DefAt K mg x st) (S:FnScope N ps (defScope st))
  (hb:∀ (kV doc pm:Value) (an:Option Addr) (cdv ct:Value) (us:List Value),us.length=ps.length->bindArgs (PySem.W.fnOf x x (defArgs st) (defBody st) (defScope st) .none kV doc pm an cdv ct) ⟨us,[]⟩=pure (ps.zip us))
  (len:∀ e c vs H Q E,spf e c vs H Q E->vs.length=ps.length)
  (hbody:∀ (f:Addr) (cdv:Value) (A:Around) (outer:List Env) (s:Shared) (H:Hp) (vs:List V) (Q:VK) (e:Addr) (oe:Obj) (c:Value) (ws:Array Value),oe.cls=c/\oe.dict=none->oe.data = .fields ws->QH e oe (cxH P w K mg base N x (defScope st) f cdv A outer s H e oe)->spf e c vs H Q E0 ->
   ∃ t,QSs (cxH P w K mg base N x (defScope st) f cdv A outer s H e oe) (defBody st) t/\t { nx:=fun _ H'=>Q .non H',rt:=Q } (start N vs) H):HCallee P w K mg base x (k + 1) ps spf :=
 D.hcallee S hb len fun f cdv A outer s H vs Q e oe c ws hc hd hq h=>let ⟨t,q,r⟩:=hbody f cdv A outer s H vs Q e oe c ws hc hd hq h; ⟨t,q.h,r⟩
theorem zbe {X:Cx} {x:Str} {C:Addr} {pos:Pos} (hg:Gl X x) (hm:X.mg x=some (.ref C)) (hd:(x == ("__debug__" : Str))=false:=by decide):PE X (.Name x pos) (tC (.ref C)):=zfT (v := .ref C) hg hm rfl hd
section
variable {K:W.Frag} {C D CE:Addr} {oc:Value} {od:Option Addr} {cd:ClassData} {sl:Array (Option Value)} {b:Bool}
end
theorem za2 {H:Hp} {p l:Addr} {ys:List V} {o:HO} (h:H l=some (.lst ys)) (n:H p=none):upd H p o l=some (.lst ys):=by rw [zag (zal h n)]; exact h
theorem Same.lstE {H0 H:Hp} (m:Same H0 H) {o:HO} {p:Addr} (n:H p=none):Same H0 (upd H p o)/\upd H p o p=some o:=⟨m.put (m.free n),upd_same⟩
theorem zgL {ns:List Int} {k:Int} (h0:0<=k) (h:k < (ns.length:Int)):atI (ns.map V.int) k=some (V.int (ns.getD k.toNat 0)):=by
 have hk:k.toNat < ns.length:=by omega
 have e:((k.toNat:Nat):Int)=k:=by omega
 rw [<- e]
 refine zas ?_
 rw [List.getElem?_map,List.getD_eq_getElem?_getD,Int.toNat_natCast,List.getElem?_eq_getElem hk]
 rfl
theorem getD_big {ns:List Int} {k:Int} (h:¬ k < (ns.length:Int)):ns.getD k.toNat 0=0:=by
 rw [List.getD_eq_getElem?_getD,List.getElem?_eq_none (by omega)]
 rfl
theorem zcg {x:Str}:x.cps.toList.length=x.length:=by simp [Str.length]
theorem zaR:1000<=sizeLine:=by decide
theorem big {n:Nat} (h:n<=1000):n<=sizeLine:=Nat.le_trans h zaR
theorem bigr {n:Nat} (h:Nat.ble n 1000=true):n<=sizeLine:=big (Nat.le_of_ble_eq_true h)
theorem p2:(0:Int) < 2:=by decide
theorem p6:(0:Int) < 6:=by decide
theorem len_app (x y:Str):(x ++ y).length=x.length + y.length:=by
 have:=congrArg List.length (PySem.W.KT.app_list x y)
 rw [List.length_append,zcg,zcg,zcg] at this
 exact this
theorem zdE (c:Nat):(⟨#[c]⟩:Str).length=1:=rfl
theorem zgH {a b:Int}:decide (V.int a=V.int b)=decide (a=b):=by
 rw [decide_eq_decide]
 exact ⟨fun h=>by injection h,fun h=>by rw [h]⟩
theorem zbb {i n:Nat} {lo:Int} {x:V} (h:((List.range n).map fun i=>V.int (lo + ((i:Nat):Int)))[i]?=some x):i < n/\x=V.int (lo + ((i:Nat):Int)):=by
 have hi:i < n:=by
  have:=(List.getElem?_eq_some_iff.mp h).1
  simpa using this
 rw [List.getElem?_map,List.getElem?_range hi] at h
 cases h
 exact ⟨hi,rfl⟩
noncomputable def small (c:Nat):Bool:=decide (97<=c) && decide (c<=122)
noncomputable def isName (x:Str):Bool:=(decide (1<=x.length) && decide (x.length<=6)) && x.cps.toList.all small
noncomputable def abc:Str:=Str.ofString "abcdefghijklmnopqrstuvwxyz"
theorem zdO:abc.cps.toList=(List.range 26).map (97 + ·):=by decide +kernel
theorem zeO:abc.length=26:=by decide +kernel
theorem abc_at {k:Int} (h0:0<=k) (h:k < 26):∃ c,atI abc.cps.toList k=some c/\small c=true:=by
 have e:((k.toNat:Nat):Int)=k:=by omega
 refine ⟨97 + k.toNat,?_,?_⟩
 ·rw [<- e]
  refine zas ?_
  rw [zdO,List.getElem?_map,List.getElem?_range (by omega),Int.toNat_natCast]
  rfl
 ·unfold small
  rw [decide_eq_true (by omega:97<=97 + k.toNat),decide_eq_true (by omega:97 + k.toNat<=122)]
  rfl
theorem zfX {x:Str} (h1:1<=x.length) (h2:x.length<=6) (h3:x.cps.toList.all small=true):isName x=true:=by
 unfold isName
 rw [decide_eq_true h1,decide_eq_true h2,h3]
 rfl
theorem name_one {c:Nat} (h:small c=true):isName ⟨#[c]⟩=true:=zfX (by rw [zdE]; decide) (by rw [zdE]; decide) (by simp [h])
theorem name_len {x:Str} (h:isName x=true):1<=x.length/\x.length<=6:=by
 unfold isName at h
 simp only [Bool.and_eq_true,decide_eq_true_eq] at h
 exact h.1
theorem app_list (x y:Str):(x ++ y).cps.toList=x.cps.toList ++ y.cps.toList:=PySem.W.KT.app_list x y
theorem zdB {α : Type} [DecidableEq α]:∀ {l m:List α},l.Nodup->(∀ x∈l,x∈m)->l.length<=m.length
 | [],_,_,_=>Nat.zero_le _
 | x :: l,m,hn,h=>by
  have hx:=h x List.mem_cons_self
  have hn:=List.nodup_cons.mp hn
  have ih:=zdB (m:=m.erase x) hn.2 fun y hy=>(List.mem_erase_of_ne (fun z:y=x=>hn.1 (by rw [<- z]; exact hy))).mpr (h y (List.mem_cons_of_mem _ hy))
  have e:=List.length_erase_of_mem hx
  have:=List.length_pos_of_mem hx
  rw [List.length_cons]
  omega
theorem zeE (x:Str) (us:List Str):inV (V.str x) (us.map V.str)=decide (x∈us):=by
 unfold inV
 rw [List.any_map,Bool.eq_iff_iff,List.any_eq_true,decide_eq_true_eq]
 constructor
 ·rintro ⟨y,hy,e⟩
  have e':(y == x)=true:=e
  rw [<- eq_of_beq e']; exact hy
 ·intro h
  exact ⟨x,h,beq_self_eq_true x⟩
theorem zek (us:List Str):(us.map V.str).all flatV=true:=by
 rw [List.all_map,List.all_eq_true]
 intro x _
 rfl
theorem spare_some (us:List Str) (h:us.length<=25):∃ c∈abc.cps.toList,(⟨#[c]⟩:Str) ∉ us:=by
 apply Classical.byContradiction
 intro hn
 have hall:∀ y∈abc.cps.toList.map (fun c=>(⟨#[c]⟩:Str)),y∈us:=fun y hy=>by
  obtain ⟨c,hc,rfl⟩:=List.mem_map.mp hy
  exact Classical.byContradiction fun z=>hn ⟨c,hc,z⟩
 have nd:(abc.cps.toList.map (fun c=>(⟨#[c]⟩:Str))).Nodup:=by
  rw [zdO,List.map_map]
  decide +kernel
 have:=zdB nd hall
 rw [List.length_map,zcg,zeO] at this
 omega
theorem abc_small {c:Nat} (h:c∈abc.cps.toList):small c=true:=by
 rw [zdO] at h
 obtain ⟨i,hi,rfl⟩:=List.mem_map.mp h
 have:=List.mem_range.mp hi
 unfold small
 rw [decide_eq_true (by omega:97<=97 + i),decide_eq_true (by omega:97 + i<=122)]
 rfl
theorem zcU:∀ (ns acc:List Int),(ns.foldl step_dedup acc).length<=acc.length + ns.length/\(acc.Nodup->((ns.foldl step_dedup acc).length=acc.length + ns.length ↔ (acc ++ ns).Nodup))
 | [],acc=>⟨by simp,fun h=>by simp [h]⟩
 | n :: ns,acc=>by
  rw [List.foldl_cons]
  by_cases hm:n∈acc
  ·have e:step_dedup acc n=acc:=by
    unfold step_dedup
    rw [if_pos (List.any_eq_true.mpr ⟨n,hm,by simp⟩)]
   rw [e]
   have ih:=zcU ns acc
   refine ⟨by have:=ih.1; rw [List.length_cons]; omega,fun _=>⟨fun z => ?_,fun z => ?_⟩⟩
   ·have:=ih.1
    rw [List.length_cons] at z
    omega
   ·exact absurd rfl ((List.nodup_append.mp z).2.2 n hm n List.mem_cons_self)
  ·have e:step_dedup acc n=acc ++ [n]:=by
    unfold step_dedup
    rw [if_neg]
    intro z
    obtain ⟨x,hx,ex⟩:=List.any_eq_true.mp z
    have:x=n:=by simpa using ex
    subst this
    exact hm hx
   rw [e]
   have ih:=zcU ns (acc ++ [n])
   rw [List.length_append,List.length_singleton,List.append_assoc] at ih
   refine ⟨by have:=ih.1; rw [List.length_cons]; omega,fun h => ?_⟩
   have hn:(acc ++ [n]).Nodup:=by
    refine List.nodup_append.mpr ⟨h,by simp,fun a ha b hb => ?_⟩
    have:b=n:=by simpa using hb
    subst this
    intro z
    subst z
    exact hm ha
   have:=ih.2 hn
   rw [List.length_cons]
   rw [show acc.length + (ns.length + 1)=acc.length + 1 + ns.length by omega]
   exact this
theorem many_eq (ns:List Int):many ns=(ns.foldl step_dedup []).length:=by
 unfold many firstMet
 congr 2
 apply List.ext_getElem?
 intro i
 rw [List.getElem?_map]
 by_cases h:i < ns.length
 ·rw [List.getElem?_range h]
  simp [List.getD_eq_getElem?_getD,h]
 ·rw [List.getElem?_eq_none (by simpa using h),List.getElem?_eq_none (by simpa using h)]
  rfl
theorem many_nodup (ns:List Int):many ns=ns.length ↔ ns.Nodup:=by
 rw [many_eq]
 have:=(zcU ns []).2 List.nodup_nil
 simpa using this
noncomputable def inR (t:Int):Bool:=decide (0<=t) && decide (t<=7)
noncomputable def areTeeth (ts:List Int):Bool:=decide (0∈ts) && (decide (many ts=ts.length) && ts.all inR)
theorem in_zero (ts:List Int):inV (V.int 0) (ts.map V.int)=decide (0∈ts):=by
 unfold inV
 rw [List.any_map,Bool.eq_iff_iff,List.any_eq_true,decide_eq_true_eq]
 constructor
 ·rintro ⟨x,hx,e⟩
  have:x=0:=by
   have e':(x == 0)=true:=e
   exact eq_of_beq e'
  rw [<- this]; exact hx
 ·intro h
  exact ⟨0,h,rfl⟩
theorem zgV (ts:List Int):(ts.map V.int).all flatV=true:=by
 rw [List.all_map,List.all_eq_true]
 intro x _
 rfl
noncomputable def KindsL (G:Addr->Prop) (H:Hp):List V->List (Str×List Int)->Prop
 | [],[]=>True
 | v :: vs,k :: ks=>(∃ q t,v = .ref q/\H q=some (.lst [.str k.1,.ref t])/\H t=some (.lst (k.2.map V.int))/\G q/\G t)/\KindsL G H vs ks
 | _,_=>False
theorem KindsL.mono {G G':Addr->Prop} {H H':Hp} (s:∀ a o,G a->H a=some o->H' a=some o) (g:∀ a,G a->G' a):∀ {vs:List V} {ks:List (Str×List Int)},KindsL G H vs ks->KindsL G' H' vs ks
 | [],[],_=>trivial
 | _ :: _,_ :: _,⟨⟨q,t,e,h1,h2,g1,g2⟩,r⟩=>⟨⟨q,t,e,s _ _ g1 h1,s _ _ g2 h2,g _ g1,g _ g2⟩,KindsL.mono s g r⟩
 | [],_ :: _,h=>h.elim
 | _ :: _,[],h=>h.elim
theorem KindsL.same {G:Addr->Prop} {H H':Hp} {vs:List V} {ks:List (Str×List Int)} (s:Same H H') (h:KindsL G H vs ks):KindsL G H' vs ks:=h.mono (fun a o _ e=>s a o e) fun _ g=>g
theorem KindsL.upd {G:Addr->Prop} {H:Hp} {p:Addr} {o:HO} {vs:List V} {ks:List (Str×List Int)} (h:KindsL G H vs ks) (n:¬ G p):KindsL G (upd H p o) vs ks:=h.mono (fun a u g e=>by rw [zag (fun z:a=p=>n (by rw [<- z]; exact g))]; exact e) fun _ g=>g
theorem KindsL.snoc {G:Addr->Prop} {H:Hp} {q t:Addr} {k:Str×List Int} (h1:H q=some (.lst [.str k.1,.ref t])) (h2:H t=some (.lst (k.2.map V.int))) (g1:G q) (g2:G t):∀ {vs:List V} {ks:List (Str×List Int)},KindsL G H vs ks->KindsL G H (vs ++ [.ref q]) (ks ++ [k])
 | [],[],_=>⟨⟨q,t,rfl,h1,h2,g1,g2⟩,trivial⟩
 | _ :: _,_ :: _,⟨a,b⟩=>⟨a,KindsL.snoc h1 h2 g1 g2 b⟩
 | [],_ :: _,x=>x.elim
 | _ :: _,[],x=>x.elim
theorem KindsL.length {G:Addr->Prop} {H:Hp}:∀ {vs:List V} {ks:List (Str×List Int)},KindsL G H vs ks->vs.length=ks.length
 | [],[],_=>rfl
 | _ :: _,_ :: _,⟨_,b⟩=>by rw [List.length_cons,List.length_cons,KindsL.length b]
 | [],_ :: _,x=>x.elim
 | _ :: _,[],x=>x.elim
theorem KindsL.get {G:Addr->Prop} {H:Hp}:∀ {vs:List V} {ks:List (Str×List Int)} {i:Nat} {v:V},KindsL G H vs ks->vs[i]?=some v->∃ k q t,ks[i]?=some k/\v = .ref q/\H q=some (.lst [.str k.1,.ref t])/\H t=some (.lst (k.2.map V.int))
 | [],[],_,_,_,e=>by simp at e
 | _ :: _,k :: _,0,_,⟨⟨q,t,e,h1,h2,_⟩,_⟩,z=>by
  simp at z
  subst z
  exact ⟨k,q,t,rfl,e,h1,h2⟩
 | _ :: _,_ :: _,i + 1,_,⟨_,b⟩,z=>by
  obtain ⟨k,q,t,h⟩:=KindsL.get (i:=i) b (by simpa using z)
  exact ⟨k,q,t,by simpa using h⟩
 | [],_ :: _,_,_,x,_=>x.elim
 | _ :: _,[],_,_,x,_=>x.elim
noncomputable def GT (ts:List Int):Prop:=∃ f:Nat->Bool,ts=((List.range 8).filter f).map (fun i=>((i:Nat):Int))/\f 0=true
structure Drawn (G:Addr->Prop) (H:Hp) (vs:List V) (ks:List (Str×List Int)):Prop where
 rows:KindsL G H vs ks
 nd:(ks.map (·.1)).Nodup
 good:∀ k∈ks,isName k.1=true/\GT k.2
theorem Drawn.same {G:Addr->Prop} {H H':Hp} {vs:List V} {ks:List (Str×List Int)} (d:Drawn G H vs ks) (s:Same H H'):Drawn G H' vs ks:=⟨d.rows.same s,d.nd,d.good⟩
theorem Drawn.upd {G:Addr->Prop} {H:Hp} {p:Addr} {o:HO} {vs:List V} {ks:List (Str×List Int)} (d:Drawn G H vs ks) (n:¬ G p):Drawn G (upd H p o) vs ks:=⟨d.rows.upd n,d.nd,d.good⟩
theorem Drawn.any {G:Addr->Prop} {H:Hp} {vs:List V} {ks:List (Str×List Int)} (d:Drawn G H vs ks):Drawn (fun _=>True) H vs ks:=⟨d.rows.mono (fun _ _ _ e=>e) fun _ _=>trivial,d.nd,d.good⟩
theorem Drawn.snoc {G:Addr->Prop} {H:Hp} {vs:List V} {ks:List (Str×List Int)} {q t:Addr} {k:Str×List Int} (d:Drawn G H vs ks) (h1:H q=some (.lst [.str k.1,.ref t])) (h2:H t=some (.lst (k.2.map V.int))) (g1:G q) (g2:G t) (hn:k.1 ∉ ks.map (·.1)) (hk:isName k.1=true/\GT k.2):Drawn G H (vs ++ [.ref q]) (ks ++ [k]):=by
 refine ⟨KindsL.snoc h1 h2 g1 g2 d.rows,?_,fun x hx => ?_⟩
 ·rw [List.map_append]
  refine List.nodup_append.mpr ⟨d.nd,by simp,fun a ha b hb => ?_⟩
  have e:b=k.1:=by simpa using hb
  rw [e]
  exact fun z=>hn (z ▸ ha)
 ·rcases List.mem_append.mp hx with z | z
  ·exact d.good x z
  ·rw [List.mem_singleton.mp z]; exact hk
noncomputable abbrev Combs:=List (Str×List Int)
noncomputable def cGet (cs:Combs) (x:Str):Option (List Int):=(cs.find? fun c=>decide (c.1=x)).map (·.2)
noncomputable def cPut (cs:Combs) (x:Str) (ts:List Int):Combs:=if (cs.any fun c=>decide (c.1=x))=true then cs.map (fun c=>if c.1=x then (c.1,ts) else c) else cs ++ [(x,ts)]
noncomputable def canon (ts:List Int):List Int:=((List.range 8).filter fun i=>decide (((i:Nat):Int)∈ts)).map fun i=>((i:Nat):Int)
theorem zgx (f:Nat->Bool):(((List.range 8).filter f).map fun i=>((i:Nat):Int)).Pairwise (· < ·):=by
 rw [List.pairwise_map]
 refine List.Pairwise.sublist List.filter_sublist ?_
 refine List.Pairwise.imp ?_ (List.pairwise_lt_range (n:=8))
 intro a b h
 omega
theorem zdM (ts:List Int):(canon ts).Pairwise (· < ·):=zgx _
theorem mem_canon {ts:List Int} {t:Int}:t∈canon ts ↔ t∈ts/\0<=t/\t<=7:=by
 unfold canon
 simp only [List.mem_map,List.mem_filter,List.mem_range,decide_eq_true_eq]
 constructor
 ·rintro ⟨i,⟨hi,hm⟩,rfl⟩
  exact ⟨hm,by omega,by omega⟩
 ·rintro ⟨hm,h0,h7⟩
  refine ⟨t.toNat,⟨by omega,?_⟩,by omega⟩
  rwa [show ((t.toNat:Nat):Int)=t by omega]
theorem za1 {l:List Int} (h:l.Pairwise (· < ·)):l.Nodup:=h.imp fun h=>by omega
theorem zb2 (ts:List Int):(canon ts).Nodup:=za1 (zdM ts)
theorem zbZ {a b:List Int} (hp:a.Perm b) (ha:a.Pairwise (· <= ·)) (hb:b.Pairwise (· <= ·)):a=b :=
 hp.eq_of_pairwise (fun x y _ _ h1 h2=>Int.le_antisymm h1 h2) ha hb
theorem zdL {ns ts:List Int} (hp:ns.Perm ts) (hs:ns.Pairwise (· <= ·)) (hn:ts.Nodup) (hr:∀ t∈ts,0<=t/\t<=7):ns=canon ts:=by
 refine zbZ (hp.trans ?_) hs ((zdM ts).imp fun h=>by omega)
 rw [List.perm_ext_iff_of_nodup hn (zb2 ts)]
 intro t
 rw [mem_canon]
 exact ⟨fun h=>⟨h,hr t h⟩,fun h=>h.1⟩
theorem zfx {ts:List Int} (h:GT ts):ts.Pairwise (· < ·):=by
 obtain ⟨f,rfl,_⟩:=h
 exact zgx f
theorem zcy {ts:List Int} (h:GT ts):∀ t∈ts,0<=t/\t<=7:=by
 obtain ⟨f,rfl,_⟩:=h
 intro t ht
 obtain ⟨i,hi,rfl⟩:=List.mem_map.mp ht
 have:=List.mem_range.mp (List.mem_filter.mp hi).1
 omega
theorem zeF {ts:List Int} (h:GT ts):(0:Int)∈ts:=by
 obtain ⟨f,rfl,h0⟩:=h
 exact List.mem_map.mpr ⟨0,List.mem_filter.mpr ⟨by decide,h0⟩,rfl⟩
theorem gt_canon {ts:List Int} (h0:(0:Int)∈ts):GT (canon ts):=⟨_,rfl,decide_eq_true h0⟩
theorem gt_eq {ts:List Int} (h:GT ts):canon ts=ts:=by
 symm
 refine zdL (List.Perm.refl _) ((zfx h).imp fun h=>by omega) (za1 (zfx h)) (zcy h)
theorem zgB {ts:List Int} (h:GT ts):ts.length<=8:=by
 obtain ⟨f,rfl,_⟩:=h
 rw [List.length_map]
 exact Nat.le_trans (List.length_filter_le _ _) (by simp)
theorem canon_len (ts:List Int):(canon ts).length<=8:=by
 unfold canon
 rw [List.length_map]
 exact Nat.le_trans (List.length_filter_le _ _) (by simp)
theorem inR_iff {t:Int}:inR t=true ↔ 0<=t/\t<=7:=by unfold inR; simp
theorem teeth_iff {ts:List Int}:areTeeth ts=true ↔ (0:Int)∈ts/\ts.Nodup/\∀ t∈ts,0<=t/\t<=7:=by
 unfold areTeeth
 simp only [Bool.and_eq_true,decide_eq_true_eq,many_nodup,List.all_eq_true,inR_iff]
theorem zcG {ts:List Int} (hn:ts.Nodup) (hr:∀ t∈ts,0<=t/\t<=7):ts.length<=8:=by
 have:ts.length<=(canon ts).length:=zdB hn fun x hx=>mem_canon.mpr ⟨hx,hr x hx⟩
 have:=canon_len ts
 omega
theorem gt_teeth {ts:List Int} (h:GT ts):areTeeth ts=true:=teeth_iff.mpr ⟨zeF h,za1 (zfx h),zcy h⟩
structure Good (cs:Combs):Prop where
 len:cs.length<=8
 nd:(cs.map (·.1)).Nodup
 ok:∀ c∈cs,isName c.1=true/\GT c.2
theorem good_nil:Good []:=⟨by decide,List.nodup_nil,by simp⟩
theorem zdJ {cs:Combs} {x:Str} {ts:List Int} (h:cGet cs x=some ts):(x,ts)∈cs:=by
 unfold cGet at h
 obtain ⟨c,hc,rfl⟩:=Option.map_eq_some_iff.mp h
 have h1:=List.mem_of_find?_eq_some hc
 have h2:c.1=x:=by simpa using List.find?_some hc
 rw [<- h2]
 exact h1
theorem get_none {cs:Combs} {x:Str}:cGet cs x=none ↔ x ∉ cs.map (·.1):=by
 unfold cGet
 rw [Option.map_eq_none_iff,List.find?_eq_none]
 simp only [decide_eq_true_eq,List.mem_map,not_exists,not_and]
theorem zeN {cs:Combs} {x:Str}:(cs.any fun c=>decide (c.1=x))=(cGet cs x).isSome:=by
 rw [Bool.eq_iff_iff,List.any_eq_true,Option.isSome_iff_ne_none,ne_eq,get_none,Classical.not_not,List.mem_map]
 simp
theorem zcz {c:Str×List Int} {cs:Combs} {x:Str}:cGet (c :: cs) x=if c.1=x then some c.2 else cGet cs x:=by
 unfold cGet
 rw [List.find?_cons]
 by_cases h:c.1=x
 ·simp [h]
 ·simp [h]
theorem zfN {cs:Combs} {x:Str} {ts:List Int} (h:cGet cs x=none):cPut cs x ts=cs ++ [(x,ts)]:=by
 unfold cPut
 rw [zeN,h]
 rfl
theorem zez {cs:Combs} {x:Str} {ts us:List Int} (h:cGet cs x=some us):cPut cs x ts=cs.map (fun c=>if c.1=x then (c.1,ts) else c):=by
 unfold cPut
 rw [zeN,h]
 rfl
theorem put_keys {cs:Combs} {x:Str} {ts us:List Int} (h:cGet cs x=some us):(cPut cs x ts).map (·.1)=cs.map (·.1):=by
 rw [zez h,List.map_map]
 apply List.map_congr_left
 intro c _
 show (if c.1=x then (c.1,ts) else c).1=c.1
 split <;> rfl
theorem Good.put {cs:Combs} {x:Str} {ts:List Int} (g:Good cs) (hx:isName x=true) (ht:GT ts) (hl:cs.length < 8\/(cGet cs x).isSome=true):Good (cPut cs x ts):=by
 cases e:cGet cs x with
 | none =>
  rw [zfN e]
  refine ⟨?_,?_,?_⟩
  ·rw [e] at hl
   rw [List.length_append,List.length_singleton]
   rcases hl with h | h
   ·omega
   ·cases h
  ·rw [List.map_append]
   exact zfW g.nd (get_none.mp e)
  ·intro c hc
   rcases List.mem_append.mp hc with h | h
   ·exact g.ok c h
   ·rw [List.mem_singleton.mp h]; exact ⟨hx,ht⟩
 | some us =>
  refine ⟨?_,by rw [put_keys e]; exact g.nd,?_⟩
  ·rw [zez e,List.length_map]; exact g.len
  ·rw [zez e]
   intro c hc
   obtain ⟨c0,h0,rfl⟩:=List.mem_map.mp hc
   split
   ·exact ⟨(g.ok c0 h0).1,ht⟩
   ·exact g.ok c0 h0
noncomputable def KvR (G:Addr->Prop) (H:Hp):List (Key×V)->Combs->Prop:=Paired fun kv c=>∃ t,kv=(Sum.inr c.1,V.ref t)/\H t=some (.lst (c.2.map V.int))/\G t
noncomputable def DictR (G:Addr->Prop) (H:Hp) (d:Addr) (cs:Combs):Prop:=G d/\∃ kvs,H d=some (.dK kvs)/\KvR G H kvs cs
theorem KvR.mono {G G':Addr->Prop} {H H':Hp} {kvs:List (Key×V)} {cs:Combs} (s:∀ a o,G a->H a=some o->H' a=some o) (g:∀ a,G a->G' a) (h:KvR G H kvs cs):KvR G' H' kvs cs :=
 Paired.mono (fun _ _ ⟨t,e,h1,g1⟩=>⟨t,e,s _ _ g1 h1,g _ g1⟩) h
theorem DictR.mono {G G':Addr->Prop} {H H':Hp} {d:Addr} {cs:Combs} (s:∀ a o,G a->H a=some o->H' a=some o) (g:∀ a,G a->G' a) (h:DictR G H d cs):DictR G' H' d cs :=
 let ⟨g0,kvs,e,r⟩:=h
 ⟨g _ g0,kvs,s _ _ g0 e,r.mono s g⟩
theorem KvR.keys {G:Addr->Prop} {H:Hp}:∀ {kvs:List (Key×V)} {cs:Combs},KvR G H kvs cs->kvs.map (·.1)=(cs.map (·.1)).map Sum.inr
 | _,_,.nil=>rfl
 | _,_,.cons ⟨t,e,_⟩ r=>by
  subst e
  show _ :: _=_ :: _
  rw [show List.map _ _=_ from KvR.keys r]
theorem KvR.val {G:Addr->Prop} {H:Hp} {x:Str}:∀ {kvs:List (Key×V)} {cs:Combs},KvR G H kvs cs ->
  (cGet cs x=none/\valV kvs (Sum.inr x)=none)\/∃ ts t,cGet cs x=some ts/\valV kvs (Sum.inr x)=some (.ref t)/\H t=some (.lst (ts.map V.int))/\G t
 | _,_,.nil => .inl ⟨rfl,rfl⟩
 | _,_,.cons (b:=c) ⟨t,e,h1,g1⟩ r=>by
  subst e
  by_cases h:c.1=x
  ·refine .inr ⟨c.2,t,by rw [zcz,if_pos h],zaW (by rw [h]),h1,g1⟩
  ·have hn:¬ ((Sum.inr c.1:Key)=Sum.inr x):=fun z=>h (Sum.inr.inj z)
   rcases KvR.val (x:=x) r with ⟨e1,e2⟩ | ⟨ts,t',e1,e2,e3⟩
   ·exact .inl ⟨by rw [zcz,if_neg h]; exact e1,by rw [zaQ hn]; exact e2⟩
   ·exact .inr ⟨ts,t',by rw [zcz,if_neg h]; exact e1,by rw [zaQ hn]; exact e2,e3⟩
theorem KvR.some {G:Addr->Prop} {H:Hp} {kvs:List (Key×V)} {cs:Combs} {x:Str} (r:KvR G H kvs cs):(valV kvs (Sum.inr x)).isSome=(cGet cs x).isSome:=by
 rcases r.val (x:=x) with ⟨e1,e2⟩ | ⟨ts,t',e1,e2,e3⟩
 ·rw [e1,e2]; rfl
 ·rw [e1,e2]; rfl
theorem KvR.map {G:Addr->Prop} {H:Hp} {x:Str} {t:Addr} {ts:List Int} (h1:H t = .some (.lst (ts.map V.int))) (g1:G t):∀ {kvs:List (Key×V)} {cs:Combs},KvR G H kvs cs ->
  KvR G H (kvs.map fun kv=>if kv.1=Sum.inr x then (kv.1,V.ref t) else kv) (cs.map fun c=>if c.1=x then (c.1,ts) else c)
 | _,_,.nil => .nil
 | _,_,.cons (b:=c) ⟨t',e,h2,g2⟩ r=>by
  subst e
  refine .cons ?_ (KvR.map h1 g1 r)
  dsimp only
  by_cases hx:c.1=x
  ·rw [if_pos hx,if_pos (by rw [hx])]
   exact ⟨t,rfl,h1,g1⟩
  ·rw [if_neg hx,if_neg (fun z=>hx (Sum.inr.inj z))]
   exact ⟨t',rfl,h2,g2⟩
theorem KvR.put {G:Addr->Prop} {H:Hp} {kvs:List (Key×V)} {cs:Combs} {x:Str} {t:Addr} {ts:List Int} (r:KvR G H kvs cs) (h1:H t = .some (.lst (ts.map V.int))) (g1:G t):KvR G H (putK kvs (Sum.inr x) (.ref t)) (cPut cs x ts):=by
 unfold putK cPut
 rw [zbf,zeN,r.some]
 split
 ·exact r.map h1 g1
 ·exact Paired.snoc r ⟨t,rfl,h1,g1⟩
noncomputable abbrev PastR (G:Addr->Prop) (H:Hp):List V->List Combs->Prop:=Paired fun v cs=>∃ d,v = .ref d/\DictR G H d cs
structure Bk (C:Addr) (G:Addr->Prop) (H:Hp) (b l:Addr) (cs:Combs) (past:List Combs):Prop where
 live:∀ x,G x->H x≠none
 nb:¬ G b
 nl:¬ G l
 ins:∃ dx d,H b=some (.ins C dx [("combs",.ref d),("past",.ref l)])/\DictR G H d cs
 lst:∃ vs,H l=some (.lst vs)/\PastR G H vs past
 good:Good cs
 goods:∀ p∈past,Good p
 few:past.length<=300
theorem Bk.move {C:Addr} {G:Addr->Prop} {H H':Hp} {b l:Addr} {cs:Combs} {past:List Combs} (B:Bk C G H b l cs past) (s:∀ a o,G a\/a=b\/a=l->H a=some o->H' a=some o):Bk C G H' b l cs past:=by
 have s':∀ a o,G a->H a=some o->H' a=some o:=fun a o g e=>s a o (.inl g) e
 obtain ⟨dx,d,e1,r1⟩:=B.ins
 obtain ⟨vs,e2,r2⟩:=B.lst
 refine ⟨fun x g => ?_,B.nb,B.nl,⟨dx,d,s _ _ (.inr (.inl rfl)) e1,r1.mono s' fun _ g=>g⟩,⟨vs,s _ _ (.inr (.inr rfl)) e2,?_⟩,B.good,B.goods,B.few⟩
 ·have:=B.live x g
  cases e:H x with
  | none=>exact absurd e this
  | some o=>rw [s' x o g e]; simp
 ·exact Paired.mono (fun _ _ ⟨d,e,r⟩=>⟨d,e,r.mono s' fun _ g=>g⟩) r2
theorem Bk.same {C:Addr} {G:Addr->Prop} {H H':Hp} {b l:Addr} {cs:Combs} {past:List Combs} (B:Bk C G H b l cs past) (s:Same H H'):Bk C G H' b l cs past:=B.move fun a o _ e=>s a o e
theorem Bk.liveB {C:Addr} {G:Addr->Prop} {H:Hp} {b l:Addr} {cs:Combs} {past:List Combs} (B:Bk C G H b l cs past):H b≠none/\H l≠none:=by
 obtain ⟨dx,d,e1,r1⟩:=B.ins
 obtain ⟨vs,e2,r2⟩:=B.lst
 exact ⟨by rw [e1]; simp,by rw [e2]; simp⟩
structure Mv (b l:Addr) (G G':Addr->Prop) (H H':Hp):Prop where
 keep:∀ a o,H a=some o->a≠b->a≠l->H' a=some o
 on:∀ a,H a≠none->H' a≠none
 new:∀ a,G' a->G a\/H a=none
theorem zd9 {H H':Hp} (s:Same H H'):∀ a,H a≠none->H' a≠none:=fun a h=>by
 cases e:H a with
 | none=>exact absurd e h
 | some o=>rw [s a o e]; simp
theorem Mv.ofSame {b l:Addr} {G:Addr->Prop} {H H':Hp} (s:Same H H'):Mv b l G G H H':=⟨fun a o e _ _=>s a o e,zd9 s,fun _ g => .inl g⟩
theorem Mv.trans {b l:Addr} {G G1 G2:Addr->Prop} {H H1 H2:Hp} (m:Mv b l G G1 H H1) (m':Mv b l G1 G2 H1 H2):Mv b l G G2 H H2:=by
 refine ⟨fun a o e n1 n2=>m'.keep a o (m.keep a o e n1 n2) n1 n2,fun a h=>m'.on a (m.on a h),fun a g => ?_⟩
 rcases m'.new a g with g1 | e
 ·exact m.new a g1
 ·refine .inr ?_
  cases q:H a with
  | none=>rfl
  | some o=>exact absurd e (m.on a (by rw [q]; simp))
noncomputable def Deed (ea:Nat->Addr) (C:Addr) (G:Addr->Prop) (H:Hp) (b l:Addr) (cs:Combs) (past:List Combs) (Q:VK) (E:XK):Except Nat Combs->Prop
 | .error j=>∀ H',Same H H'->E (.ref (ea j)) none H'
 | .ok cs'=>∀ H' G',Mv b l G G' H H'->Bk C G' H' b l cs' (past ++ [cs])->Q (.int ((past.length:Int) + 1)) H'
theorem Deed.from {ea:Nat->Addr} {C:Addr} {G:Addr->Prop} {H H1:Hp} {b l:Addr} {cs:Combs} {past:List Combs} {Q:VK} {E:XK} {r:Except Nat Combs} (d:Deed ea C G H b l cs past Q E r) (s:Same H H1):Deed ea C G H1 b l cs past Q E r:=by
 cases r with
 | error j=>exact fun H' s'=>d H' (s.trans s')
 | ok cs'=>exact fun H' G' m B=>d H' G' ((Mv.ofSame s).trans m) B
noncomputable def full (past:List Combs) (cs':Combs):Except Nat Combs:=if 300<=past.length then .error 9 else .ok cs'
noncomputable def putD (cs:Combs) (past:List Combs) (x:Str) (ts:List Int):Except Nat Combs :=
 if isName x=false then .error 0 else if areTeeth ts=false then .error 1 else if (cGet cs x).isSome=true then .error 2 else if 8<=cs.length then .error 3 else full past (cPut cs x (canon ts))
theorem call_dictD {X:Cx}:CallR X (.type "dict") (fun xs H Q=>∃ a kvs,xs = [V.ref a]/\Rd H a (.dK kvs)/\∀ p,H p=none->Q (.ref p) (upd H p (.dK kvs))):=by
 intro pins s σ H xs us Q I r h
 obtain ⟨a,kvs,rfl,ha,q⟩:=h
 obtain ⟨u,rfl,ru⟩:=zb5 r
 cases ru
 exact d_copyOf I ha fun p s' np I'=>⟨.ref p,_,I',rfl,q p np⟩
noncomputable def sle (a b:Str):Prop:=a.cps.toList<=b.cps.toList
theorem sle_iff {a b:Str}:sle a b ↔ ltCps b.cps.toList a.cps.toList=false:=by
 unfold sle
 rw [ltCps_eq,decide_eq_false_iff_not,List.not_lt]
theorem sle_trans {a b c:Str} (h1:sle a b) (h2:sle b c):sle a c:=List.le_trans h1 h2
theorem zcs {a b:Str} (h1:sle a b) (h2:sle b a):a=b:=by
 have:=List.le_antisymm h1 h2
 cases a; cases b
 simp only at this
 rw [Str.mk.injEq,<- Array.toList_inj]
 exact this
theorem zdf:∀ {l:List Str} {p:Str},risingS p l=true->(p :: l).Pairwise sle
 | [],p,_=>by simp
 | x :: r,p,h=>by
  simp only [risingS,Bool.and_eq_true,Bool.not_eq_true'] at h
  have ih:=zdf h.2
  have hpx:sle p x:=sle_iff.mpr h.1
  refine List.pairwise_cons.mpr ⟨fun y hy => ?_,ih⟩
  rcases List.mem_cons.mp hy with rfl | hm
  ·exact hpx
  ·exact sle_trans hpx ((List.pairwise_cons.mp ih).1 y hm)
theorem zc8 {l:List Str} (h:sortedS l=true):l.Pairwise sle:=by
 cases l with
 | nil=>exact List.Pairwise.nil
 | cons x r=>exact zdf h
theorem zdV {a b:List Str} (hp:a.Perm b) (ha:sortedS a=true) (hb:sortedS b=true):a=b :=
 hp.eq_of_pairwise (fun _ _ _ _ h1 h2=>zcs h1 h2) (zc8 ha) (zc8 hb)
theorem atI_int {α : Type} {xs:List α} {k:Int} {v : α} (h0:0<=k) (h:xs[k.toNat]?=some v):atI xs k=some v:=by
 have e:((k.toNat:Nat):Int)=k:=by omega
 rw [<- e]
 exact zas h
noncomputable def errNames:List Str := [Str.ofString "BadName",Str.ofString "BadTeeth",Str.ofString "NameTaken",Str.ofString "BookFull",Str.ofString "NoComb",Str.ofString "BadTooth",Str.ofString "ToothThere",Str.ofString "FirstTooth",Str.ofString "ToothMissing",Str.ofString "DeedsFull",Str.ofString "NothingDone",Str.ofString "BadShape",Str.ofString "BadPlace",Str.ofString "BadLength",Str.ofString "NoFilling"]
noncomputable def errName (j:Nat):Str:=errNames.getD j (Str.ofString "")
noncomputable def valErr:List Value := [.type "ValueError",.type "Exception",.type "BaseException",.type "object"]
noncomputable def clsChk (K:W.Frag) (C:Addr):Bool:=(PySem.W.clsIn K C).isSome && PySem.W.typeIn K (.ref C) == some (.type "type")
noncomputable def errChk1 (K:W.Frag) (l:List Addr) (ce:Addr) (D:Addr) (j:Nat):Bool :=
 (List.range 15).all (fun i=>PySem.W.mroIn K D (.ref (l.getD i 0)) == some (i == j)) && (PySem.W.mroIn K D (.ref ce) == some true &&
 (PySem.W.findIn K (.ref D) "__getattribute__" == some (some (.builtin "BaseException.__getattribute__")) && (PySem.W.findIn K (.ref D) "__getattr__" == some none &&
 (PySem.W.findIn K (.ref D) "__class__" == some (some (.builtin "object.__class__")) && (PySem.W.mroIn K D (.type "object") == some true && (PySem.W.mroIn K D (.type "BaseException") == some true && PySem.W.excIn K D valErr "ValueError.__new__"))))))
noncomputable def errChk (K:W.Frag) (l:List Addr) (ce:Addr) (js:List Nat):Bool :=
 (List.range 15).all (fun i=>clsChk K (l.getD i 0)) && (clsChk K ce && (PySem.W.mroIn K ce (.type "BaseException") == some true &&
 (PySem.W.specialIn K (.builtin "object.__class__") "__get__" == some (some (.builtin "getset_descriptor.__get__")) && (PySem.W.takesIn K (.builtin "object.__class__") == some true && js.all fun j=>errChk1 K l ce (l.getD j 0) j))))
structure KindF (K:W.Frag) (ea:Nat->Addr) (D:Addr) (j:Nat):Prop where
 lt:j < 15
 cls:ErrCls K D
 kit:∀ i,i < 15->PySem.W.kitOne K (.ref D) (.ref (ea i))=some (decide (i=j))
structure EJ (K:W.Frag) (ea:Nat->Addr) (ce:Value) (j:Nat):Prop where
 kf:KindF K ea (ea j) j
 ex:PySem.W.exmOne K (.ref (ea j)) ce=some true
 exc:PySem.W.excIn K (ea j) valErr "ValueError.__new__" = true
theorem zeb {K:W.Frag} {D C:Addr} {b:Bool} (h:clsChk K C=true) (m:PySem.W.mroIn K D (.ref C)=some b):PySem.W.kitCls K (.ref D) (.ref C)=some b:=by
 unfold clsChk at h
 simp only [Bool.and_eq_true,beq_iff_eq] at h
 unfold PySem.W.kitCls
 simp only [h.1,h.2]
 rw [if_pos (by decide)]
 exact m
theorem ej_of {K:W.Frag} {l:List Addr} {ce:Addr} {js:List Nat} {j:Nat} (h:errChk K l ce js=true) (hj:j∈js) (hlt:j < 15):EJ K (fun i=>l.getD i 0) (.ref ce) j:=by
 unfold errChk at h
 simp only [Bool.and_eq_true,beq_iff_eq,List.all_eq_true,List.mem_range] at h
 obtain ⟨h1,h2,h3,h4,h5,h6⟩:=h
 have h7:=h6 j hj
 unfold errChk1 at h7
 simp only [Bool.and_eq_true,beq_iff_eq,List.all_eq_true,List.mem_range] at h7
 obtain ⟨g1,g2,g3,g4,g5,g6,g7,g8⟩:=h7
 have hc:(PySem.W.clsIn K (l.getD j 0)).isSome=true:=by
  have:=h1 j hlt
  unfold clsChk at this
  simp only [Bool.and_eq_true] at this
  exact this.1
 refine ⟨⟨hlt,⟨g3,g4,hc,g5,h4,h5,g6,g7⟩,fun i hi => ?_⟩,?_,g8⟩
 ·have m:=g1 i hi
  unfold PySem.W.kitOne
  by_cases e:i=j
  ·subst e
   rw [if_pos (beq_self_eq_true _),decide_eq_true rfl]
  ·have ne:l.getD j 0≠l.getD i 0:=fun z=>by
    have m2:=g1 j hlt
    rw [<- z] at m
    rw [m] at m2
    simp [e] at m2
   rw [if_neg (fun z=>ne (Value.ref.inj (beq_iff_eq.mp z))),decide_eq_false e]
   have e2:(i == j)=false:=beq_eq_false_iff_ne.mpr e
   rw [e2] at m
   exact zeb (h1 i hi) m
 ·unfold PySem.W.exmOne
  rw [if_pos (by rw [show PySem.W.subIn K (.ref ce) (.type "BaseException")=some true from h3]; rfl)]
  exact zeb h2 g2
theorem EJ.err {K:W.Frag} {mg:Str->Option Value} {ea:Nat->Addr} {ce:Value} {j:Nat} {x:Str} (e:EJ K ea ce j) (hm:mg x=some (.ref (ea j))):Err K mg x (ea j):=⟨hm,e.exc⟩
structure BookAt (K:W.Frag) (C:Addr):Prop where
 cls:Cls K C
 nc:NoAttr K C "combs"
 np:NoAttr K C "past"
noncomputable def bookChk (K:W.Frag) (C:Addr):Bool:=PySem.W.plainGet K C Str.empty && (PySem.W.hasDictIn K C && (PySem.W.plainOver K C && (PySem.W.findIn K (.ref C) "__setattr__" == some (some (.builtin "object.__setattr__")) && (PySem.W.findIn K (.ref C) "combs" == some none && PySem.W.findIn K (.ref C) "past" == some none))))
theorem book_of {K:W.Frag} {C:Addr} (h:bookChk K C=true):BookAt K C:=by
 unfold bookChk at h
 simp only [Bool.and_eq_true,beq_iff_eq] at h
 obtain ⟨h1,h2,h3,h4,h5,h6⟩:=h
 exact ⟨⟨h1,h2,h3,h4⟩,h5,h6⟩
theorem meth_mk {K:W.Frag} {C:Addr} {cn m:Str} {st:Stmt} {f:Addr} {oc:Value} {od an:Option Addr} {osl:Array (Option Value)} {kV doc pm cdv ct:Value} (a:PySem.W.findIn K (.ref C) m=some (some (.ref f)))
  (l:K.lookup f=some ⟨oc,od,.func (PySem.W.fnOf m (cn ++ Str.ofString "." ++ m) (defArgs st) (defBody st) (defScope st) .none kV doc pm an cdv ct),osl⟩) (c:PySem.W.codeIn K cdv (cn ++ Str.ofString "." ++ m)=true) (k:PySem.W.keepIn K (.ref f)=true) (i:PySem.W.isFn K (.ref f)=true):MethAt K C cn m st :=
 ⟨f,_,zf7 l c k,a,i,k⟩
structure InitAt (K:W.Frag) (mg:Str->Option Value) (C:Addr) (x qual:Str) (st:Stmt):Prop where
 ex:∃ f fd,Mk K C f/\Fun K "__init__" qual st f fd
 m:mg x=some (.ref C)
theorem init_mk {K:W.Frag} {mg:Str->Option Value} {C:Addr} {x qual:Str} {st:Stmt} {f:Addr} {oc:Value} {od an:Option Addr} {osl:Array (Option Value)} {kV doc pm cdv ct:Value} (hm:mg x=some (.ref C)) (a:PySem.W.findIn K (.ref C) "__init__" = some (some (.ref f)))
  (l:K.lookup f=some ⟨oc,od,.func (PySem.W.fnOf "__init__" qual (defArgs st) (defBody st) (defScope st) .none kV doc pm an cdv ct),osl⟩) (c:PySem.W.codeIn K cdv qual=true) (k:PySem.W.keepIn K (.ref f)=true) (i:PySem.W.isFn K (.ref f)=true) (k2:PySem.W.keepIn K (.ref C)=true) (mk:PySem.W.makesIn K C=true):InitAt K mg C x qual st :=
 ⟨⟨f,_,⟨mk,a,i,k2⟩,zf7 l c k⟩,hm⟩
theorem ref_mk {K:W.Frag} {mg:Str->Option Value} {h:Heap} {x:Str} {f:Addr} (X:K.In h) (G:h.Ns mainGlobals mg) (a:PySem.W.nsIn K mainGlobals x=some (some (.ref f))):mg x=some (.ref f):=PySem.W.mg_of X G a
theorem at_last {α : Type} (l:List α) (a : α):atI (l ++ [a]) (-1)=some a:=by
 unfold atI ixN
 rw [if_neg (by decide),if_pos (by rw [List.length_append,List.length_singleton]; omega)]
 have e:((-1:Int) + (((l ++ [a]).length:Nat):Int)).toNat=l.length:=by rw [List.length_append,List.length_singleton]; omega
 rw [e]
 simp
section
variable {X:Cx}
end
section
variable {X:Cx} {T id:String} {name:Str} {r:V->List V->Hp->VK->Prop} {o e:Expr} {es:List Expr} {to:TE} {t:TA} {apos cpos:Pos}
end
noncomputable def pw (t:Int):Int:=2 ^ t.toNat
noncomputable def worth (ts:List Int):Int:=(ts.map pw).sum
noncomputable def aheadOf (n:Int):List Int:=((List.range 7).filter fun d=>n.toNat.testBit d).map fun i=>((i:Nat):Int)
noncomputable def meets (ah ts:List Int):Bool:=ts.any fun t=>decide (t∈ah)
noncomputable def afterOf (ah ts:List Int):List Int:=((canon (ah ++ ts)).filter fun d=>decide (0 < d)).map fun d=>d - 1
theorem zdQ:worth []=0:=rfl
theorem zaV (t:Int) (ts:List Int):worth (t :: ts)=pw t + worth ts:=rfl
theorem zcp (a b:List Int):worth (a ++ b)=worth a + worth b:=by
 induction a with
 | nil=>simp [worth]
 | cons t a ih=>rw [List.cons_append,zaV,zaV,ih]; omega
theorem worth_perm {a b:List Int} (h:a.Perm b):worth a=worth b:=by
 induction h with
 | nil=>rfl
 | cons x _ ih=>rw [zaV,zaV,ih]
 | swap x y l=>simp only [zaV]; omega
 | trans _ _ h1 h2=>exact h1.trans h2
theorem pw_pos (t:Int):0 < pw t:=by unfold pw; exact Int.pow_pos (by decide)
theorem zeR (ts:List Int):0<=worth ts:=by
 induction ts with
 | nil=>exact Int.le_refl _
 | cons t ts ih=>rw [zaV]; have:=pw_pos t; omega
noncomputable def bitSum (f:Nat->Bool):Nat->Nat
 | 0=>0
 | k + 1=>2 ^ k * (if f k then 1 else 0) + bitSum f k
theorem zb3 (f:Nat->Bool) (k:Nat):bitSum f (k + 1)=2 ^ k * (if f k then 1 else 0) + bitSum f k:=rfl
theorem zcf (f:Nat->Bool):∀ k,bitSum f k < 2 ^ k
 | 0=>Nat.zero_lt_one
 | k + 1=>by
  have:=zcf f k
  rw [zb3]
  rw [Nat.pow_succ]
  cases f k
  ·simp; omega
  ·simp; omega
theorem zbB (f:Nat->Bool) (i:Nat):∀ k,(bitSum f k).testBit i=(decide (i < k) && f i)
 | 0=>by simp [bitSum]
 | k + 1=>by
  rw [zb3,Nat.testBit_two_pow_mul_add _ (zcf f k),zbB f i k]
  by_cases h:i < k
  ·rw [if_pos h,decide_eq_true h,decide_eq_true (show i < k + 1 by omega)]
  ·rw [if_neg h]
   by_cases e:i=k
   ·subst e
    rw [Nat.sub_self,decide_eq_true (Nat.lt_succ_self i)]
    cases f i <;> rfl
   ·rw [decide_eq_false (show ¬ i < k + 1 by omega),Bool.false_and]
    cases f k
    ·exact Nat.zero_testBit _
    ·show (1:Nat).testBit (i - k)=false
     rw [Bool.eq_false_iff]
     exact fun z=>absurd (Nat.testBit_one_eq_true_iff_self_eq_zero.mp z) (by omega)
theorem zbQ (f:Nat->Bool):∀ k,worth (((List.range k).filter f).map fun i=>((i:Nat):Int))=((bitSum f k:Nat):Int)
 | 0=>rfl
 | k + 1=>by
  rw [List.range_succ,List.filter_append,List.map_append,zcp,zbQ f k,zb3]
  cases h:f k
  ·simp [h,worth]
  ·simp only [h,List.filter_cons,List.filter_nil,if_true,List.map_cons,List.map_nil,zaV,zdQ]
   unfold pw
   rw [Int.toNat_natCast]
   push_cast
   omega
theorem zcX {f:Nat->Bool} {k:Nat} (i:Nat):(worth (((List.range k).filter f).map fun i=>((i:Nat):Int))).toNat.testBit i=(decide (i < k) && f i):=by
 rw [zbQ,Int.toNat_natCast,zbB]
theorem ahead_worth (f:Nat->Bool):aheadOf (worth (((List.range 7).filter f).map fun i=>((i:Nat):Int)))=((List.range 7).filter f).map fun i=>((i:Nat):Int):=by
 unfold aheadOf
 congr 1
 refine List.filter_congr fun i hi => ?_
 rw [zcX,decide_eq_true (List.mem_range.mp hi),Bool.true_and]
theorem za7 {n:Int} (h0:0<=n) (h1:n < 128):worth (aheadOf n)=n:=by
 unfold aheadOf
 rw [zbQ]
 have:bitSum (fun d=>n.toNat.testBit d) 7=n.toNat:=by
  refine Nat.eq_of_testBit_eq fun i => ?_
  rw [zbB]
  by_cases h:i < 7
  ·rw [decide_eq_true h,Bool.true_and]
  ·rw [decide_eq_false h,Bool.false_and]
   symm
   refine Nat.testBit_lt_two_pow (Nat.lt_of_lt_of_le (show n.toNat < 2 ^ 7 by omega) (Nat.pow_le_pow_right (by decide) (by omega)))
 rw [this]
 omega
theorem mem_ahead {n t:Int}:t∈aheadOf n ↔ 0<=t/\t<=6/\n.toNat.testBit t.toNat=true:=by
 unfold aheadOf
 simp only [List.mem_map,List.mem_filter,List.mem_range]
 constructor
 ·rintro ⟨i,⟨hi,hb⟩,rfl⟩
  exact ⟨by omega,by omega,by simpa using hb⟩
 ·rintro ⟨h0,h6,hb⟩
  exact ⟨t.toNat,⟨by omega,hb⟩,by omega⟩
theorem meets_false {ah ts:List Int}:meets ah ts=false ↔ ∀ t∈ts,t ∉ ah:=by
 unfold meets
 simp [List.any_eq_false]
theorem zet {n:Int} {ts:List Int} (h0:0<=n) (h1:n < 128) (g:GT ts):Builtin.bitAnd n (worth ts)=0 ↔ meets (aheadOf n) ts=false:=by
 have hb:Builtin.bitAnd n (worth ts)=((n.toNat &&& (worth ts).toNat:Nat):Int):=by
  unfold Builtin.bitAnd
  rw [decide_eq_true h0,decide_eq_true (zeR ts)]
 rw [hb,meets_false]
 obtain ⟨f,rfl,_⟩:=g
 constructor
 ·intro h t ht ha
  obtain ⟨t0,t6,tb⟩:=mem_ahead.mp ha
  obtain ⟨i,hi,rfl⟩:=List.mem_map.mp ht
  obtain ⟨hr,hf⟩:=List.mem_filter.mp hi
  have z:(n.toNat &&& (worth (((List.range 8).filter f).map fun i=>((i:Nat):Int))).toNat)=0:=by omega
  have z:=congrArg (fun m=>m.testBit i) z
  simp only [Nat.testBit_and,zcX,Nat.zero_testBit] at z
  rw [Int.toNat_natCast] at tb
  rw [tb,hf,decide_eq_true (List.mem_range.mp hr)] at z
  exact absurd z (by decide)
 ·intro h
  have z:(n.toNat &&& (worth (((List.range 8).filter f).map fun i=>((i:Nat):Int))).toNat)=0:=by
   refine Nat.eq_of_testBit_eq fun i => ?_
   rw [Nat.testBit_and,zcX,Nat.zero_testBit]
   cases e:n.toNat.testBit i with
   | false=>rfl
   | true =>
    have hi:i < 7:=by
     apply Classical.byContradiction
     intro hn
     have:=Nat.testBit_lt_two_pow (Nat.lt_of_lt_of_le (show n.toNat < 2 ^ 7 by omega) (Nat.pow_le_pow_right (by decide) (show 7<=i by omega)))
     rw [this] at e
     exact absurd e (by decide)
    cases ef:f i with
    | false=>simp
    | true =>
     exfalso
     refine h (i:Int) (List.mem_map.mpr ⟨i,List.mem_filter.mpr ⟨List.mem_range.mpr (by omega),ef⟩,rfl⟩) (mem_ahead.mpr ⟨by omega,by omega,?_⟩)
     rwa [Int.toNat_natCast]
  omega
theorem worth_half (l:List Int) (h:∀ t∈l,0<=t):worth l=2 * worth ((l.filter fun d=>decide (0 < d)).map fun d=>d - 1) + ((l.count 0:Nat):Int):=by
 induction l with
 | nil=>rfl
 | cons t l ih =>
  have ih:=ih fun x hx=>h x (List.mem_cons_of_mem _ hx)
  have t0:=h t List.mem_cons_self
  rw [zaV,List.filter_cons,List.count_cons]
  by_cases e:t=0
  ·subst e
   rw [ih]
   simp [pw]
   omega
  ·have hp:0 < t:=by omega
   have:pw t=2 * pw (t - 1):=by
    unfold pw
    rw [show t.toNat=(t - 1).toNat + 1 by omega,Int.pow_succ]
    omega
   rw [if_pos (decide_eq_true hp),List.map_cons,zaV,this,ih]
   rw [if_neg (by simpa using e)]
   omega
theorem zft {ah ts:List Int}:∀ d∈afterOf ah ts,0<=d/\d<=6:=by
 intro d hd
 obtain ⟨x,hx,rfl⟩:=List.mem_map.mp hd
 obtain ⟨hc,hp⟩:=List.mem_filter.mp hx
 have:=(mem_canon.mp hc).2
 have:=of_decide_eq_true hp
 omega
theorem zcD (ah ts:List Int):(afterOf ah ts).Pairwise (· < ·):=by
 unfold afterOf
 rw [List.pairwise_map]
 exact ((zdM (ah ++ ts)).sublist List.filter_sublist).imp fun h=>by omega
theorem zb4 (n:Int):(aheadOf n).Nodup:=by
 refine za1 ?_
 unfold aheadOf
 rw [List.pairwise_map]
 refine List.Pairwise.sublist List.filter_sublist (List.Pairwise.imp ?_ (List.pairwise_lt_range (n:=7)))
 intro a b h
 omega
theorem zcZ {ah ts:List Int} (ha:ah.Nodup) (hr:∀ t∈ah,0<=t/\t<=6) (ht:ts.Nodup) (hr':∀ t∈ts,0<=t/\t<=7) (hm:meets ah ts=false):worth (afterOf ah ts)=(worth ah + worth ts) / 2:=by
 have hn:(ah ++ ts).Nodup:=List.nodup_append.mpr ⟨ha,ht,fun a h1 b h2 e=>meets_false.mp hm b h2 (e ▸ h1)⟩
 have hp:(canon (ah ++ ts)).Perm (ah ++ ts):=by
  rw [List.perm_ext_iff_of_nodup (zb2 _) hn]
  intro t
  rw [mem_canon]
  refine ⟨fun h=>h.1,fun h=>⟨h,?_⟩⟩
  rcases List.mem_append.mp h with z | z
  ·have:=hr t z; omega
  ·exact hr' t z
 have hw:=worth_half (canon (ah ++ ts)) fun t h=>(mem_canon.mp h).2.1
 rw [worth_perm hp,zcp] at hw
 have hc:=List.nodup_iff_count.mp (zb2 (ah ++ ts)) 0
 unfold afterOf
 omega
theorem zbC {n:Int}:∀ t∈aheadOf n,0<=t/\t<=6:=fun t h=>⟨(mem_ahead.mp h).1,(mem_ahead.mp h).2.1⟩
theorem zc2 {n:Int} (h0:0<=n):(0:Int)∈aheadOf n ↔ n % 2=1:=by
 rw [mem_ahead]
 have:n.toNat.testBit 0=decide (n.toNat % 2=1):=Nat.testBit_zero _
 rw [show (0:Int).toNat=0 from rfl,this,decide_eq_true_eq]
 omega
noncomputable def stepsOf (cs:Combs) (n:Int):List (Str×Int):=if n % 2=1 then [("",n / 2)] else (cs.filter fun c=>decide (Builtin.bitAnd n (worth c.2)=0)).map fun c=>(c.1,(n + worth c.2) / 2)
noncomputable def goesOf (cs:Combs) (ah:List Int):List (Str×List Int):=if (0:Int)∈ah then [("",afterOf ah [])] else (cs.filter fun c => !meets ah c.2).map fun c=>(c.1,afterOf ah c.2)
theorem zc7 {cs:Combs} {n:Int} (h0:0<=n) (h1:n < 128) (g:∀ c∈cs,GT c.2):(goesOf cs (aheadOf n)).map (fun p=>(p.1,worth p.2))=stepsOf cs n:=by
 unfold goesOf stepsOf
 by_cases e:n % 2=1
 ·rw [if_pos e,if_pos ((zc2 h0).mpr e),List.map_cons,List.map_nil,zcZ (zb4 n) zbC List.nodup_nil (by simp) (by rfl),za7 h0 h1,zdQ,Int.add_zero]
 ·rw [if_neg e,if_neg fun z=>e ((zc2 h0).mp z),List.map_map]
  have hf:(cs.filter fun c => !meets (aheadOf n) c.2)=cs.filter fun c=>decide (Builtin.bitAnd n (worth c.2)=0):=by
   refine List.filter_congr fun c hc => ?_
   rw [Bool.eq_iff_iff,decide_eq_true_eq,zet h0 h1 (g c hc),Bool.not_eq_true']
  rw [hf]
  refine List.map_congr_left fun c hc => ?_
  obtain ⟨hc,hz⟩:=List.mem_filter.mp hc
  have gc:=g c hc
  show (c.1,worth (afterOf (aheadOf n) c.2))=_
  rw [zcZ (zb4 n) zbC (za1 (zfx gc)) (zcy gc) ((zet h0 h1 gc).mp (of_decide_eq_true hz)),za7 h0 h1]
theorem steps_lt {cs:Combs} {n:Int} (h0:0<=n) (h1:n < 128) (g:∀ c∈cs,GT c.2):∀ p∈stepsOf cs n,0<=p.2/\p.2 < 128:=by
 rw [<- zc7 h0 h1 g]
 intro p hp
 obtain ⟨q,hq,rfl⟩:=List.mem_map.mp hp
 have:∃ a b,q.2=afterOf a b:=by
  unfold goesOf at hq
  split at hq
  ·rw [List.mem_singleton.mp hq]; exact ⟨_,_,rfl⟩
  ·obtain ⟨c,_,rfl⟩:=List.mem_map.mp hq; exact ⟨_,_,rfl⟩
 obtain ⟨a,b,e⟩:=this
 show 0<=worth q.2/\worth q.2 < 128
 rw [e]
 refine ⟨zeR _,?_⟩
 have hs:afterOf a b=((List.range 7).filter fun i=>decide (((i:Nat):Int)∈afterOf a b)).map fun i=>((i:Nat):Int):=by
  refine zbZ ?_ ((zcD a b).imp fun h=>by omega) ?_
  ·rw [List.perm_ext_iff_of_nodup (za1 (zcD a b))]
   ·intro t
    simp only [List.mem_map,List.mem_filter,List.mem_range,decide_eq_true_eq]
    constructor
    ·intro h
     have:=zft t h
     exact ⟨t.toNat,⟨by omega,by rwa [show ((t.toNat:Nat):Int)=t by omega]⟩,by omega⟩
    ·rintro ⟨i,⟨_,h⟩,rfl⟩
     exact h
   ·refine za1 ?_
    rw [List.pairwise_map]
    refine List.Pairwise.sublist List.filter_sublist (List.Pairwise.imp ?_ (List.pairwise_lt_range (n:=7)))
    intro a b h
    omega
  ·rw [List.pairwise_map]
   refine List.Pairwise.sublist List.filter_sublist (List.Pairwise.imp ?_ (List.pairwise_lt_range (n:=7)))
   intro a b h
   omega
 rw [hs,zbQ]
 have:=zcf (fun i=>decide (((i:Nat):Int)∈afterOf a b)) 7
 omega
noncomputable def StepsR (H:Hp):List V->List (Str×Int)->Prop
 | [],[]=>True
 | v :: vs,s :: ss=>(∃ q,v = .ref q/\H q=some (.tup [.str s.1,.int s.2]))/\StepsR H vs ss
 | _,_=>False
theorem StepsR.mono {H H':Hp} (m:∀ q xs,H q=some (.tup xs)->H' q=some (.tup xs)):∀ {vs:List V} {ss:List (Str×Int)},StepsR H vs ss->StepsR H' vs ss
 | [],[],_=>trivial
 | _ :: _,_ :: _,⟨⟨q,e,h⟩,r⟩=>⟨⟨q,e,m q _ h⟩,r.mono m⟩
 | [],_ :: _,x=>x.elim
 | _ :: _,[],x=>x.elim
theorem StepsR.length {H:Hp}:∀ {vs:List V} {ss:List (Str×Int)},StepsR H vs ss->vs.length=ss.length
 | [],[],_=>rfl
 | _ :: _,_ :: _,⟨_,r⟩=>by rw [List.length_cons,List.length_cons,r.length]
 | [],_ :: _,x=>x.elim
 | _ :: _,[],x=>x.elim
theorem StepsR.snoc {H:Hp} {q:Addr} {s:Str×Int} (hq:H q=some (.tup [.str s.1,.int s.2])):∀ {vs:List V} {ss:List (Str×Int)},StepsR H vs ss->StepsR H (vs ++ [.ref q]) (ss ++ [s])
 | [],[],_=>⟨⟨q,rfl,hq⟩,trivial⟩
 | _ :: _,_ :: _,⟨a,r⟩=>⟨a,r.snoc hq⟩
 | [],_ :: _,x=>x.elim
 | _ :: _,[],x=>x.elim
theorem StepsR.get {H:Hp} {i:Nat} {s:Str×Int}:∀ {vs:List V} {ss:List (Str×Int)},StepsR H vs ss->ss[i]?=some s->∃ q,vs[i]?=some (.ref q)/\H q=some (.tup [.str s.1,.int s.2]):=by
 induction i with
 | zero =>
  intro vs ss r e
  match vs,ss,r with
  | [],[],_=>simp at e
  | v :: _,x :: _,⟨⟨q,ev,h⟩,_⟩ =>
   simp at e
   subst e
   exact ⟨q,by rw [ev]; rfl,h⟩
 | succ i ih =>
  intro vs ss r e
  match vs,ss,r with
  | [],[],_=>simp at e
  | v :: vs,x :: ss,⟨_,r⟩ =>
   obtain ⟨q,e1,e2⟩:=ih r (by simpa using e)
   exact ⟨q,by simpa using e1,e2⟩
noncomputable def byNames (cs:Combs) (nm:List Str):Combs:=nm.map fun x=>(x,(cGet cs x).getD [])
theorem byNames_snoc {cs:Combs} {nm:List Str} {x:Str} {ts:List Int} (h:cGet cs x=some ts):byNames cs (nm ++ [x])=byNames cs nm ++ [(x,ts)]:=by
 unfold byNames
 rw [List.map_append,List.map_cons,List.map_nil,h]
 rfl
theorem zc6 {cs:Combs} {c:Str×List Int} {n:Int} (h:¬ n % 2=1):stepsOf (cs ++ [c]) n=stepsOf cs n ++ if Builtin.bitAnd n (worth c.2)=0 then [(c.1,(n + worth c.2) / 2)] else []:=by
 unfold stepsOf
 rw [if_neg h,if_neg h,List.filter_append,List.map_append]
 congr 1
 by_cases e:Builtin.bitAnd n (worth c.2)=0
 ·rw [if_pos e,List.filter_cons,if_pos (decide_eq_true e)]
  rfl
 ·rw [if_neg e,List.filter_cons,if_neg (by simpa using e)]
  rfl
theorem steps_nil {n:Int} (h:¬ n % 2=1):stepsOf [] n = []:=by
 unfold stepsOf
 rw [if_neg h]
 rfl
theorem zb7 {cs:Combs} {n:Int} (h:n % 2=1):stepsOf cs n = [((Str.ofString "" : Str),n / 2)]:=by
 unfold stepsOf
 exact if_pos h
theorem steps_len {cs:Combs} {n:Int} (h:¬ n % 2=1):(stepsOf cs n).length<=cs.length:=by
 unfold stepsOf
 rw [if_neg h,List.length_map]
 exact List.length_filter_le _ _
theorem zf2 (t:Int) (ts:List Int):inV (V.int t) (ts.map V.int)=decide (t∈ts):=by
 unfold inV
 rw [List.any_map,Bool.eq_iff_iff,List.any_eq_true,decide_eq_true_eq]
 constructor
 ·rintro ⟨x,hx,e⟩
  have:x=t:=by
   have e':(x == t)=true:=e
   exact eq_of_beq e'
  rw [<- this]; exact hx
 ·intro h
  exact ⟨t,h,beq_self_eq_true t⟩
theorem after_canon {ah ts ns:List Int} (ha:ah.Nodup) (hr:∀ t∈ah,0<=t/\t<=6) (ht:ts.Nodup) (hr':∀ t∈ts,0<=t/\t<=7) (hm:meets ah ts=false) (hp:ns.Perm (ah ++ ts)) (hs:ns.Pairwise (· <= ·)):ns=canon (ah ++ ts):=by
 refine zdL hp hs (List.nodup_append.mpr ⟨ha,ht,fun a h1 b h2 e=>meets_false.mp hm b h2 (e ▸ h1)⟩) fun t h => ?_
 rcases List.mem_append.mp h with z | z
 ·have:=hr t z; omega
 ·exact hr' t z
noncomputable def GoesR (H:Hp):List V->List (Str×List Int)->Prop
 | [],[]=>True
 | v :: vs,s :: ss=>(∃ q t,v = .ref q/\H q=some (.tup [.str s.1,.ref t])/\H t=some (.tup (s.2.map V.int)))/\GoesR H vs ss
 | _,_=>False
theorem GoesR.mono {H H':Hp} (m:∀ q xs,H q=some (.tup xs)->H' q=some (.tup xs)):∀ {vs:List V} {ss:List (Str×List Int)},GoesR H vs ss->GoesR H' vs ss
 | [],[],_=>trivial
 | _ :: _,_ :: _,⟨⟨q,t,e,h,h2⟩,r⟩=>⟨⟨q,t,e,m q _ h,m t _ h2⟩,r.mono m⟩
 | [],_ :: _,x=>x.elim
 | _ :: _,[],x=>x.elim
theorem GoesR.length {H:Hp}:∀ {vs:List V} {ss:List (Str×List Int)},GoesR H vs ss->vs.length=ss.length
 | [],[],_=>rfl
 | _ :: _,_ :: _,⟨_,r⟩=>by rw [List.length_cons,List.length_cons,r.length]
 | [],_ :: _,x=>x.elim
 | _ :: _,[],x=>x.elim
theorem GoesR.snoc {H:Hp} {q t:Addr} {s:Str×List Int} (hq:H q=some (.tup [.str s.1,.ref t])) (ht:H t=some (.tup (s.2.map V.int))):∀ {vs:List V} {ss:List (Str×List Int)},GoesR H vs ss->GoesR H (vs ++ [.ref q]) (ss ++ [s])
 | [],[],_=>⟨⟨q,t,rfl,hq,ht⟩,trivial⟩
 | _ :: _,_ :: _,⟨a,r⟩=>⟨a,r.snoc hq ht⟩
 | [],_ :: _,x=>x.elim
 | _ :: _,[],x=>x.elim
theorem GoesR.get {H:Hp} {i:Nat} {s:Str×List Int}:∀ {vs:List V} {ss:List (Str×List Int)},GoesR H vs ss->ss[i]?=some s->∃ q t,vs[i]?=some (.ref q)/\H q=some (.tup [.str s.1,.ref t])/\H t=some (.tup (s.2.map V.int)):=by
 induction i with
 | zero =>
  intro vs ss r e
  match vs,ss,r with
  | [],[],_=>simp at e
  | v :: _,x :: _,⟨⟨q,t,ev,h,h2⟩,_⟩ =>
   simp at e
   subst e
   exact ⟨q,t,by rw [ev]; rfl,h,h2⟩
 | succ i ih =>
  intro vs ss r e
  match vs,ss,r with
  | [],[],_=>simp at e
  | v :: vs,x :: ss,⟨_,r⟩ =>
   obtain ⟨q,t,e1,e2⟩:=ih r (by simpa using e)
   exact ⟨q,t,by simpa using e1,e2⟩
theorem goes_in {cs:Combs} {ah:List Int} (h:(0:Int)∈ah):goesOf cs ah = [((Str.ofString "" : Str),afterOf ah [])]:=by
 unfold goesOf
 exact if_pos h
theorem goes_nil {ah:List Int} (h:(0:Int) ∉ ah):goesOf [] ah = []:=by
 unfold goesOf
 rw [if_neg h]
 rfl
theorem zef {cs:Combs} {c:Str×List Int} {ah:List Int} (h:(0:Int) ∉ ah):goesOf (cs ++ [c]) ah=goesOf cs ah ++ if meets ah c.2=true then [] else [(c.1,afterOf ah c.2)]:=by
 unfold goesOf
 rw [if_neg h,if_neg h,List.filter_append,List.map_append]
 congr 1
 by_cases e:meets ah c.2=true
 ·rw [if_pos e,List.filter_cons,if_neg (by rw [e]; decide)]
  rfl
 ·rw [if_neg e,List.filter_cons,if_pos (by simpa using e)]
  rfl
end L2
namespace L2
open PySem PySem.Spec PyProof.Rows PySem.W
structure LtOk (n:Nat) (lt:Nat->Nat->Bool):Prop where
 tr:∀ {a b c},lt a b=true->lt b c=true->lt a c=true
 tot:∀ {a b},a < n->b < n->a≠b->lt a b=false->lt b a=true
 irr:∀ a,lt a a=false
noncomputable abbrev gd (p:Array Nat) (i:Nat):Nat:=p.getD i 0
noncomputable def Pm (n:Nat) (p:Array Nat):Prop:=p.Perm (List.toArray (List.range n))
theorem Pm.size {n:Nat} {p:Array Nat} (h:Pm n p):p.size=n:=by
 have:=Array.Perm.size_eq h
 simpa using this
theorem Pm.list {n:Nat} {p:Array Nat} (h:Pm n p):p.toList.Perm (List.range n):=by
 have:=Array.Perm.toList h
 simpa using this
theorem zeG {p:Array Nat} {i:Nat} (h:i < p.size):p[i]?=some (gd p i):=by simp [gd,h]
theorem zgn {p:Array Nat} {i x:Nat} (h:p[i]?=some x):gd p i=x:=by simp [gd,Array.getD_eq_getD_getElem?,h]
theorem Pm.lt {n:Nat} {p:Array Nat} (h:Pm n p) {i:Nat} (hi:i < n):gd p i < n:=by
 have e:=zeG (p:=p) (i:=i) (by rw [h.size]; exact hi)
 have:gd p i∈p.toList:=by
  rw [<- Array.getElem?_toList] at e
  exact List.mem_of_getElem? e
 exact List.mem_range.mp (h.list.mem_iff.mp this)
theorem Pm.ne {n:Nat} {p:Array Nat} (h:Pm n p) {i j:Nat} (hi:i < n) (hj:j < n) (hn:i≠j):gd p i≠gd p j:=by
 intro e
 have nd:p.toList.Nodup:=h.list.nodup_iff.mpr List.nodup_range
 have e1:=zeG (p:=p) (i:=i) (by rw [h.size]; exact hi)
 have e2:=zeG (p:=p) (i:=j) (by rw [h.size]; exact hj)
 rw [<- Array.getElem?_toList] at e1 e2
 rw [<- e,<- e1] at e2
 exact hn ((List.getElem?_inj (by rw [Array.length_toList,h.size]; exact hi) nd).mp e2.symm)
section
variable {n:Nat} {lt:Nat->Nat->Bool} {cmp:Nat->Nat->(Bool->Shared->Prop)->Shared->Prop} {s:Shared}
noncomputable def Up (lt:Nat->Nat->Bool) (p:Array Nat) (m:Nat):Prop:=∀ i j,i < j->j < m->lt (gd p i) (gd p j)=true
noncomputable def Dn (lt:Nat->Nat->Bool) (p:Array Nat) (m:Nat):Prop:=∀ i j,i < j->j < m->lt (gd p j) (gd p i)=true
theorem Up.more (L:LtOk n lt) {p:Array Nat} {m:Nat} (u:Up lt p m) (h:lt (gd p (m - 1)) (gd p m)=true):Up lt p (m + 1):=by
 intro i j hij hj
 by_cases e:j=m
 ·subst e
  by_cases e2:i=j - 1
  ·rw [e2]; exact h
  ·exact L.tr (u i (j - 1) (by omega) (by omega)) h
 ·exact u i j hij (by omega)
theorem Dn.more (L:LtOk n lt) {p:Array Nat} {m:Nat} (u:Dn lt p m) (h:lt (gd p m) (gd p (m - 1))=true):Dn lt p (m + 1):=by
 intro i j hij hj
 by_cases e:j=m
 ·subst e
  by_cases e2:i=j - 1
  ·rw [e2]; exact h
  ·exact L.tr h (u i (j - 1) (by omega) (by omega))
 ·exact u i j hij (by omega)
variable (L:LtOk n lt) (hc:∀ i j C,i < n->j < n->i≠j->C (lt i j) s->cmp i j C s)
include L hc
theorem zgi {p:Array Nat} (pm:Pm n p) {Q:Nat->Shared->Prop}:∀ f m,1<=m->m + f=n->Up lt p m->(∀ m',m<=m'->m'<=n->Up lt p m'->(m'=n\/lt (gd p m') (gd p (m' - 1))=true)->Q m' s)->(kas_asc p f m).kasWp cmp Q s
 | 0,m,h1,hf,u,q=>q m (Nat.le_refl _) (by omega) u (.inl (by omega))
 | f + 1,m,h1,hf,u,q=>by
  refine hc _ _ _ (pm.lt (by omega)) (pm.lt (by omega)) (pm.ne (by omega) (by omega) (by omega)) ?_
  cases e:lt (gd p m) (gd p (m - 1)) with
  | true=>exact q m (Nat.le_refl _) (by omega) u (.inr e)
  | false=>exact zgi pm f (m + 1) (by omega) (by omega) (u.more L (L.tot (pm.lt (by omega)) (pm.lt (by omega)) (pm.ne (by omega) (by omega) (by omega)) e)) fun m' a b c d=>q m' (by omega) b c d
theorem zga {p:Array Nat} (pm:Pm n p) {Q:Array Nat×Nat×Nat->Shared->Prop}:∀ f m,1<=m->m + f=n->Dn lt p m->(∀ m',m<=m'->m'<=n->Dn lt p m'->Q (p,m',0) s)->(kas_desc f p m 0).kasWp cmp Q s
 | 0,m,h1,hf,u,q=>q m (Nat.le_refl _) (by omega) u
 | f + 1,m,h1,hf,u,q=>by
  refine hc _ _ _ (pm.lt (by omega)) (pm.lt (by omega)) (pm.ne (by omega) (by omega) (by omega)) ?_
  cases e:lt (gd p m) (gd p (m - 1)) with
  | true=>exact zga pm f (m + 1) (by omega) (by omega) (u.more L e) fun m' a b c=>q m' (by omega) b c
  | false =>
   refine hc _ _ _ (pm.lt (by omega)) (pm.lt (by omega)) (pm.ne (by omega) (by omega) (by omega)) ?_
   rw [show lt (p.getD (m - 1) 0) (p.getD m 0)=true from L.tot (pm.lt (by omega)) (pm.lt (by omega)) (pm.ne (by omega) (by omega) (by omega)) e]
   exact q m (Nat.le_refl _) (by omega) u
omit hc L in
theorem Dn.rev {p:Array Nat} (pm:Pm n p) {m:Nat} (hm:m<=n) (u:Dn lt p m):Up lt (kas_rev p 0 m) m:=by
 have g:∀ i,i < m->gd (kas_rev p 0 m) i=gd p (m - 1 - i):=fun i hi=>by
  refine zgn ?_
  unfold kas_rev
  rw [getElem?_mirror_all (by rw [pm.size]; exact hm),if_pos ⟨by omega,hi⟩,show 0 + m - 1 - i=m - 1 - i by omega]
  exact zeG (by rw [pm.size]; omega)
 intro i j hij hj
 rw [g i (by omega),g j hj]
 exact u _ _ (by omega) (by omega)
omit hc L in
theorem Pm.rev {p:Array Nat} (pm:Pm n p) (i j:Nat):Pm n (kas_rev p i j):=Array.Perm.trans (mirror_perm _ _ _ _) pm
theorem count_ok {p:Array Nat} (pm:Pm n p) (hn:1<=n) {Q:Nat×Array Nat->Shared->Prop} (q:∀ m p',1<=m->m<=n->Pm n p'->Up lt p' m->Q (m,p') s):(kas_count n p).kasWp cmp Q s:=by
 unfold kas_count
 rw [KasT.kasWp_bind]
 refine zgi L hc pm (n - 1) 1 (Nat.le_refl _) (by omega) (fun i j a b=>by omega) fun m h1 h2 u h => ?_
 by_cases e:m=n
 ·rw [if_pos (by simpa using e)]
  exact q m p h1 h2 pm u
 ·rw [if_neg (by simpa using e)]
  rcases h with h | h
  ·exact absurd h e
  by_cases e2:m > 1
  ·rw [if_pos e2]
   refine hc _ _ _ (pm.lt (by omega)) (pm.lt (by omega)) (pm.ne (by omega) (by omega) (by omega)) ?_
   rw [show lt (p.getD 0 0) (p.getD (m - 1) 0)=true from u 0 (m - 1) (by omega) (by omega)]
   exact q m p h1 h2 pm u
  ·rw [if_neg e2]
   have e3:m=1:=by omega
   subst e3
   unfold kas_descPart
   rw [KasT.kasWp_bind]
   refine zga L hc pm (n - (1 + 1)) (1 + 1) (by omega) (by omega) (fun i j a b=>by
    obtain ⟨rfl,rfl⟩:i=0/\j=1:=by omega
    exact h) fun m' a b d => ?_
   show (kas_tail3 m' n p).kasWp cmp Q s
   unfold kas_tail3
   rw [KasT.kasWp_bind]
   refine zgi L hc (pm.rev 0 m') (n - m') m' (by omega) (by omega) (d.rev pm b) fun m2 a2 b2 u2 _ => ?_
   exact q m2 _ (by omega) b2 (pm.rev 0 m') u2
theorem zdx {p:Array Nat} (pm:Pm n p) {k:Nat} (hk:k < n) (u:Up lt p k) {Q:Nat->Shared->Prop} (q:∀ l,l<=k->(∀ i,i < l->lt (gd p i) (gd p k)=true)->(∀ i,l<=i->i < k->lt (gd p k) (gd p i)=true)->Q l s) :
  ∀ f l r,l<=r->r<=k->r - l<=f->(∀ i,i < l->lt (gd p i) (gd p k)=true)->(∀ i,r<=i->i < k->lt (gd p k) (gd p i)=true)->(kas_place p k f l r).kasWp cmp Q s
 | 0,l,r,h1,h2,h3,a,b=>q l (by omega) a fun i x y=>b i (by omega) y
 | f + 1,l,r,h1,h2,h3,a,b=>by
  unfold kas_place
  by_cases e:l>=r
  ·rw [if_pos e]
   exact q l (by omega) a fun i x y=>b i (by omega) y
  ·rw [if_neg e]
   refine hc _ _ _ (pm.lt hk) (pm.lt (by omega)) (pm.ne hk (by omega) (by omega)) ?_
   cases e2:lt (gd p k) (gd p ((l + r) / 2)) with
   | true =>
    refine zdx pm hk u q f l ((l + r) / 2) (by omega) (by omega) (by omega) a fun i x y => ?_
    by_cases e3:i=(l + r) / 2
    ·rw [e3]; exact e2
    ·exact L.tr e2 (u _ _ (by omega) y)
   | false =>
    have e4:=L.tot (pm.lt hk) (pm.lt (by omega)) (pm.ne hk (by omega) (by omega)) e2
    refine zdx pm hk u q f ((l + r) / 2 + 1) r (by omega) (by omega) (by omega) (fun i x => ?_) b
    by_cases e3:i=(l + r) / 2
    ·rw [e3]; exact e4
    ·exact L.tr (u i ((l + r) / 2) (by omega) (by omega)) e4
omit hc L in
theorem Up.bubble {p:Array Nat} (pm:Pm n p) {k l:Nat} (hk:k < n) (hl:l<=k) (u:Up lt p k) (a:∀ i,i < l->lt (gd p i) (gd p k)=true) (b:∀ i,l<=i->i < k->lt (gd p k) (gd p i)=true):Up lt (PyProof.Rows.bubble p k (k - l)) (k + 1):=by
 have g:∀ i,i<=k->gd (PyProof.Rows.bubble p k (k - l)) i=if i=l then gd p k else if l < i then gd p (i - 1) else gd p i:=fun i hi=>by
  refine zgn ?_
  rw [getElem?_bubble (by rw [pm.size]; exact hk) _ (by omega),show k - (k - l)=l by omega]
  by_cases e:i=l
  ·rw [if_pos e,if_pos e]; exact zeG (by rw [pm.size]; exact hk)
  ·rw [if_neg e,if_neg e]
   by_cases e2:l < i
   ·rw [if_pos ⟨e2,hi⟩,if_pos e2]; exact zeG (by rw [pm.size]; omega)
   ·rw [if_neg (fun z=>e2 z.1),if_neg e2]; exact zeG (by rw [pm.size]; omega)
 intro i j hij hj
 rw [g i (by omega),g j (by omega)]
 by_cases e1:i=l
 ·rw [if_pos e1,if_neg (by omega),if_pos (by omega)]
  exact b _ (by omega) (by omega)
 ·rw [if_neg e1]
  by_cases e2:l < i
  ·rw [if_pos e2,if_neg (by omega),if_pos (by omega)]
   exact u _ _ (by omega) (by omega)
  ·rw [if_neg e2]
   by_cases e3:j=l
   ·rw [if_pos e3]; exact a i (by omega)
   ·rw [if_neg e3]
    by_cases e4:l < j
    ·rw [if_pos e4]
     exact u _ _ (by omega) (by omega)
    ·rw [if_neg e4]
     exact u _ _ hij (by omega)
theorem zgK {Q:Array Nat->Shared->Prop} (q:∀ p,Pm n p->Up lt p n->Q p s):∀ f p k,Pm n p->k + f=n->Up lt p k->(kas_bin f p k).kasWp cmp Q s
 | 0,p,k,pm,h,u=>q p pm (by rwa [show n=k by omega])
 | f + 1,p,k,pm,h,u=>by
  unfold kas_bin
  rw [KasT.kasWp_bind]
  refine zdx L hc pm (by omega) u (fun l hl a b => ?_) k 0 k (by omega) (by omega) (by omega) (fun i hi=>by omega) (fun i hi h2=>by omega)
  exact zgK q f _ (k + 1) (Array.Perm.trans (bubble_perm _ _ _) pm) (by omega) (u.bubble pm (by omega) hl a b)
theorem sort_ok (hn:1<=n) {Q:Array Nat->Shared->Prop} (q:∀ p,Pm n p->Up lt p n->Q p s):(kas_sort n).kasWp cmp Q s:=by
 unfold kas_sort
 rw [KasT.kasWp_bind]
 refine count_ok L hc (Array.Perm.refl _) hn fun m p h1 h2 pm u => ?_
 by_cases e:m < n
 ·rw [if_pos e]
  rw [show max m 1=m by omega]
  exact zgK L hc q _ p m pm (by omega) u
 ·rw [if_neg e]
  exact q p pm (by rwa [show n=m by omega])
end
end L2
namespace L2
open PySem PySem.Spec PyProof.Rows PySem.W
open AutoSeq1 (wpAny_loadPart')
open MeetsSeq MeetsSeq2 MeetsSeq3
theorem lt_loop0 (l b:Addr) (its its2:Array Value) (n n2:Nat) {x y:Str} {t u:Tok} (h0:its[0]?=some (.str x t)) (h1:its2[0]?=some (.str y u)) (hne:(x.cps.toList == y.cps.toList)=false) :
  Meets (Builtin.«list.__eq__.loop» ⟨[.ref l,.ref b,rawInt 0,rawInt 0],[]⟩)
   (fun _ R s=>s.heap.get? l=some { cls := .type "list",dict:=none,data := .seq its n,slots := #[] }/\s.heap.get? b=some { cls := .type "list",dict:=none,data := .seq its2 n2,slots := #[] } /\
    R (.ok (.ret (.bool (decide (x.cps.toList < y.cps.toList))))) s):=by
 intro prog w A R s h
 obtain ⟨hp,g,d,tk,os⟩:=s; obtain ⟨hl,hb,h⟩:=h
 wp_walk using wpAny_loadPart' hl,wpAny_loadPart' hb
 have e0:its[(0:Int).toNat]?=some (.str x t):=h0
 have e1:its2[(0:Int).toNat]?=some (.str y u):=h1
 rw [e0,e1]
 refine wpAny_bind (SeqRoads2.EqGives.str x y t u prog w _ _ _ _ ?_)
 rw [hne]
 wp_walk using wpAny_loadPart' hl,wpAny_loadPart' hb
 rw [e0,e1]
 refine wpAny_bind ?_
 show wpAny _ _ (compareOp .Lt (.str x t) (.str y u)) _ _ _
 refine PySem.P.lt_str ?_
 wp_walk
 exact h
theorem list_lt0 (l b:Addr) (its its2:Array Value) (n n2:Nat) {x y:Str} {t u:Tok} (h0:its[0]?=some (.str x t)) (h1:its2[0]?=some (.str y u)) (hne:(x.cps.toList == y.cps.toList)=false) :
  Meets (Builtin.«list.__lt__» ⟨[.ref l,.ref b],[]⟩)
   (fun _ R s=>s.heap.get? l=some { cls := .type "list",dict:=none,data := .seq its n,slots := #[] }/\s.heap.get? b=some { cls := .type "list",dict:=none,data := .seq its2 n2,slots := #[] } /\
    R (.ok (.ret (.bool (decide (x.cps.toList < y.cps.toList))))) s):=by
 intro prog w A R s h
 obtain ⟨hp,g,d,tk,os⟩:=s; obtain ⟨hl,hb,h⟩:=h
 have f3:=AutoSeq1.sub_list_list
 wp_walk using wpAny_loadPart' hl,wpAny_loadPart' hb
 exact ⟨plainId_quiet plain_eq_loop _,codeAny_builtin entry_eq_loop (by
  rw [Around.under_plainId plain_eq_loop _]
  exact lt_loop0 l b its its2 n n2 h0 h1 hne prog w A R _ ⟨hl,hb,h⟩)⟩
section
variable {prog:Program} {w:World} {A:Around} {E:Value->Shared->Prop} {s:Shared}
theorem key_lt0 {a b:Addr} {its its2:Array Value} {n n2:Nat} {x y:Str} {t u:Tok} {Q:Bool->Shared->Prop} (ha:s.heap.get? a=some (seqObj "list" its n)) (hb:s.heap.get? b=some (seqObj "list" its2 n2)) (h0:its[0]?=some (.str x t)) (h1:its2[0]?=some (.str y u)) (hne:(x.cps.toList == y.cps.toList)=false)
  (hu:A.units < cLine) (q:Q (decide (x.cps.toList < y.cps.toList)) s):wpAny (model prog w) A (keyLt' oneType' (.ref a) (.ref b)) Q E s:=by
 rw [keyLt'_oneType,oneLt'_eq]
 simp only [if_true]
 refine wpAny_bind (wpAny_cRoomFor hu ?_)
 refine wpAny_bind (wpAny_callSpecialIfBound?_slot (T := "list") ⟨_,ha,rfl⟩ F.slot_list_lt (call_meets F.slot_list_lt ⟨_,ha,rfl⟩ F.entry_list_lt (F.args_list_lt_2 _ _) (list_lt0 a b its its2 n n2 h0 h1 hne) ⟨ha,hb,?_⟩))
 exact wpAny_truthy_bool q
theorem sort_by {lt:Nat->Nat->Bool} {a:Addr} {vs:List Value} {n:Nat} {P:PySem.Fin->Shared->Prop} (ho:s.heap.get? a=some (seqObj "list" vs.toArray n)) (L:LtOk vs.length lt) (h64:vs.length < 64)
  (hT:∀ h':Heap,(∀ b o,b≠a->s.heap.get? b=some o->h'.get? b=some o)->∀ v∈vs,Looks (model prog w) h' (typeOf v) (.type "list"))
  (hc:∀ h':Heap,(∀ b o,b≠a->s.heap.get? b=some o->h'.get? b=some o)->∀ i j C,i < vs.length->j < vs.length->i≠j->C (lt i j) { s with heap:=h' }->wpAny (model prog w) A (keyLt' oneType' (vs.getD i Value.none) (vs.getD j Value.none)) C (fun _ _=>False) { s with heap:=h' })
  (q:∀ p:List Nat,p.Perm (List.range vs.length)->p.Pairwise (fun i j=>lt i j=true)->P (.done (.ret .none)) { s with heap:=sortedHeap s.heap a vs (List.toArray (p.map fun i=>vs.getD i Value.none)) }) :
  wpAny (model prog w) A (Builtin.«list.sort» ⟨[.ref a],[]⟩) P E s:=by
 rw [list_sort_plain]; have hlt:=Heap.lt_size ho
 obtain ⟨e1,o1⟩:∃ e,(s.heap.update a (Obj.mapSeq fun _=>(#[]:Array Value))).get? a=some (seqObj "list" #[] e):=⟨_,get?_update_seq ho fun _ => #[]⟩
 have hz:vs.toArray.size=vs.length:=List.size_toArray
 have big:64<=sizeLine:=by decide
 refine wpAny_bind (listItems_at ho rfl (wpAny_bind (listUpdate_at ho rfl (wpAny_bind (seqEpoch_at o1 rfl (wpAny_bind (wpAny_newTuple (wpAny_bind (wpAny_newList (wpAny_holding ?_) (Nat.zero_le _))) (by show vs.length<=_; omega))))) (by rw [hz]; omega) (Nat.zero_le _))))
 have o6:(((s.heap.update a (Obj.mapSeq fun _=>(#[]:Array Value))).push (seqObj "tuple" vs.toArray 0)).push (seqObj "list" #[] 0)).get? a=some (seqObj "list" #[] e1):=Heap.get?_push_of_some _ (Heap.get?_push_of_some _ o1)
 have keep:∀ b o,b≠a->s.heap.get? b=some o->(((s.heap.update a (Obj.mapSeq fun _=>(#[]:Array Value))).push (seqObj "tuple" vs.toArray 0)).push (seqObj "list" #[] 0)).get? b=some o:=fun b o hb e =>
  Heap.get?_push_of_some _ (Heap.get?_push_of_some _ (by rw [Heap.get?_update_ne _ _ _ _ hb]; exact e))
 show wpAny (model prog w) A _ P E { s with heap:=((s.heap.update a (Obj.mapSeq fun _=>(#[]:Array Value))).push (seqObj "tuple" vs.toArray 0)).push (seqObj "list" #[] 0) }; dsimp only
 by_cases h2:vs.toArray.size < 2
 ·rw [if_pos h2,if_pos h2]; refine wpAny_bind (wpAny_pure ?_)
  rw [StateT.run_pure]; refine wpAny_bind (wpAny_pure ?_)
  have hsnd:(arrOf (SortSt.mk' general' (vs.toArray.zip vs.toArray) #[] 7 none)).map (·.2)=List.toArray ((List.range vs.length).map fun i=>vs.getD i Value.none):=by
   show (pairsOf vs).map (·.2)=_
   match vs,h2 with
   | [],_=>simp [pairsOf]
   | [v],_=>simp [pairsOf,List.range_succ]
   | _ :: _ :: _,h2=>simp at h2; omega
  dsimp only
  rw [hsnd]
  refine wpAny_bind (seqEpoch_at o6 rfl (wpAny_bind (listUpdate_at o6 rfl ?_ (Nat.zero_le _) (by rw [List.size_toArray,List.length_map,List.length_range]; omega))))
  simp only [bne_self_eq_false,Bool.false_eq_true,if_false]
  refine wpAny_pure (q (List.range vs.length) (List.Perm.refl _) ?_)
  match vs,h2 with
  | [],_=>exact List.Pairwise.nil
  | [v],_=>exact List.pairwise_singleton _ _
  | _ :: _ :: _,h2=>simp at h2; omega
 ·rw [if_neg h2,if_neg h2]
  refine wpAny_bind (kas_kind (T := .type "list") (by omega) (hT _ keep) (by decide) (by decide) ?_)
  have est:SortSt.mk' oneType' (vs.toArray.zip vs.toArray) #[] 7 none=kas_st oneType' (pairsOf vs) (List.toArray (List.range vs.length)):=by
   have e:=kas_range (pairsOf vs)
   rw [pairsOf_size] at e
   unfold kas_st
   rw [e]; rfl
  have ask:(kas_sort vs.length).kasWp (kas_ask prog w A oneType' vs) (fun p s'=>s'={ s with heap:=((s.heap.update a (Obj.mapSeq fun _=>(#[]:Array Value))).push (seqObj "tuple" vs.toArray 0)).push (seqObj "list" #[] 0) }/\Pm vs.length p/\Up lt p vs.length) { s with heap:=((s.heap.update a (Obj.mapSeq fun _=>(#[]:Array Value))).push (seqObj "tuple" vs.toArray 0)).push (seqObj "list" #[] 0) } :=
   sort_ok L (hc _ keep) (by omega) fun p pm u=>⟨rfl,pm,u⟩
  rw [kas_ask_eq] at ask
  have run:=kas_runs (E:=E) (Q:=fun _ st' s'=>∃ p:Array Nat,arrOf st'=p.map (kas_item (pairsOf vs))/\failedOf st'=none/\s'={ s with heap:=((s.heap.update a (Obj.mapSeq fun _=>(#[]:Array Value))).push (seqObj "tuple" vs.toArray 0)).push (seqObj "list" #[] 0) }/\Pm vs.length p/\Up lt p vs.length) (by omega) h64 (fun p' st' s' _ a2 a3 a4=>⟨p',a2,a3,a4⟩) ask
  rw [<- est] at run
  refine wpAny_bind (wpAny_mono run ?_ fun _ _ e=>e)
  rintro ⟨⟨⟩,st'⟩ s' ⟨p,har,hf,rfl,pm,u⟩
  dsimp only
  have hout:(arrOf st').map (·.2)=List.toArray (p.toList.map fun i=>vs.getD i Value.none):=by
   refine Array.toList_inj.mp ?_
   rw [har,Array.map_map,Array.toList_map]
   refine List.map_congr_left fun i _ => ?_
   show (kas_item (pairsOf vs) i).2=_
   rw [kas_item_eq]
  rw [hout]
  refine wpAny_bind (seqEpoch_at o6 rfl (wpAny_bind (listUpdate_at o6 rfl ?_ (Nat.zero_le _) (by rw [List.size_toArray,List.length_map,Array.length_toList,pm.size]; omega))))
  rw [hf]
  simp only [bne_self_eq_false,Bool.false_eq_true,if_false]
  refine wpAny_pure (q p.toList pm.list ?_)
  rw [List.pairwise_iff_getElem]
  intro i j hi hj hij
  have z:=pm.size
  rw [Array.length_toList] at hi hj
  have:=u i j hij (by omega)
  have e1:=zgn (p:=p) (i:=i) (x:=p[i]) (by simp [hi])
  have e2:=zgn (p:=p) (i:=j) (x:=p[j]) (by simp [hj])
  rw [e1,e2] at this
  simpa using this
end
noncomputable def kd (ks:List (Str×List Int)) (i:Nat):Str×List Int:=ks.getD i (Str.ofString "",[])
theorem zf0 {ks:List (Str×List Int)} {i:Nat} {k:Str×List Int} (h:ks[i]?=some k):kd ks i=k:=by simp [kd,h]
theorem KindsL.at {G:Addr->Prop} {H:Hp} {vs:List V} {ks:List (Str×List Int)} (h:KindsL G H vs ks) {i:Nat} (hi:i < ks.length):∃ q t,vs[i]?=some (.ref q)/\H q=some (.lst [.str (kd ks i).1,.ref t])/\H t=some (.lst ((kd ks i).2.map V.int)):=by
 have hl:=h.length
 obtain ⟨k,q,t,e,ev,h1,h2⟩:=h.get (List.getElem?_eq_getElem (by omega:i < vs.length))
 refine ⟨q,t,?_,?_,?_⟩
 ·rw [List.getElem?_eq_getElem (by omega:i < vs.length),ev]
 ·rw [zf0 e]; exact h1
 ·rw [zf0 e]; exact h2
theorem KindsL.pick {G:Addr->Prop} {H:Hp} {vs:List V} {ks:List (Str×List Int)} (h:KindsL G H vs ks):∀ {p:List Nat},(∀ i∈p,i < ks.length)->KindsL (fun _=>True) H (p.map fun i=>vs.getD i .non) (p.map (kd ks))
 | [],_=>trivial
 | i :: p,hp=>by
  obtain ⟨q,t,ev,h1,h2⟩:=h.at (hp i List.mem_cons_self)
  exact ⟨⟨q,t,by simp [ev],h1,h2,trivial,trivial⟩,h.pick fun j hj=>hp j (List.mem_cons_of_mem _ hj)⟩
theorem kd_range (ks:List (Str×List Int)):(List.range ks.length).map (kd ks)=ks:=by
 refine List.ext_getElem? fun i => ?_
 rw [List.getElem?_map]
 by_cases h:i < ks.length
 ·rw [List.getElem?_range h,List.getElem?_eq_getElem h,Option.map_some,zf0 (List.getElem?_eq_getElem h)]
 ·simp [Nat.le_of_not_lt h]
theorem Vals.pick {xs:List V} {us:List Value} (r:Vals xs us):∀ {p:List Nat},(∀ i∈p,i < xs.length)->Vals (p.map fun i=>xs.getD i .non) (p.map fun i=>us.getD i Value.none)
 | [],_ => .nil
 | i :: p,hp=>by
  obtain ⟨u,e,ru⟩:=r.get (List.getElem?_eq_getElem (hp i List.mem_cons_self))
  refine .cons ?_ (r.pick fun j hj=>hp j (List.mem_cons_of_mem _ hj))
  have e1:xs.getD i .non=xs[i]'(hp i List.mem_cons_self):=by simp [hp i List.mem_cons_self]
  have e2:us.getD i Value.none=u:=by simp [e]
  show RelV (xs.getD i .non) (us.getD i Value.none)
  rw [e1,e2]
  exact ru
noncomputable def ltK (ks:List (Str×List Int)) (i j:Nat):Bool:=decide ((kd ks i).1.cps.toList < (kd ks j).1.cps.toList)
theorem ltK_ok {ks:List (Str×List Int)} (nd:(ks.map (·.1)).Nodup):LtOk ks.length (ltK ks):=by
 refine ⟨fun h1 h2 => ?_,fun {a b} ha hb hne h => ?_,fun a => ?_⟩
 ·exact decide_eq_true (List.lt_trans (of_decide_eq_true h1) (of_decide_eq_true h2))
 ·refine decide_eq_true ?_
  have h:=of_decide_eq_false h
  have hle:(kd ks b).1.cps.toList<=(kd ks a).1.cps.toList:=List.not_lt.mp h
  refine Classical.byContradiction fun hn=>hne ?_
  have e:(kd ks a).1=(kd ks b).1:=zcs (List.not_lt.mp hn) hle
  have e1:=zf0 (List.getElem?_eq_getElem ha)
  have e2:=zf0 (List.getElem?_eq_getElem hb)
  rw [e1,e2] at e
  refine (List.getElem?_inj (l:=ks.map (·.1)) (by rw [List.length_map]; exact ha) nd).mp ?_
  rw [List.getElem?_map,List.getElem?_map,List.getElem?_eq_getElem ha,List.getElem?_eq_getElem hb,Option.map_some,Option.map_some,e]
 ·exact decide_eq_false (List.lt_irrefl _)
section
variable {X:Cx}
theorem call_sortedK (hu:X.A.units + 64 < cLine):CallR X (.builtin "sorted") (fun xs H Q=>∃ (a:Addr) (vs:List V) (ks:List (Str×List Int)) (G:Addr->Prop),xs = [V.ref a]/\H a=some (.lst vs)/\KindsL G H vs ks/\(ks.map (·.1)).Nodup/\ks.length < 64 /\
  ∀ p vs' ks',H p=none->KindsL (fun _=>True) H vs' ks'->ks'.Perm ks->sortedS (ks'.map (·.1))=true->Q (.ref p) (upd H p (.lst vs'))):=by
 intro pins s σ H xs us Q I r h
 obtain ⟨a,vs,ks,G,rfl,hq,kk,nd,h64,q⟩:=h
 obtain ⟨u,rfl,ru⟩:=zb5 r
 cases ru
 obtain ⟨z,its,n,rv,hl,ea⟩:=I.lstM hq
 have hlk:=kk.length
 have big:64<=sizeLine:=by decide
 have row:∀ i,i < its.length->∃ q,its.getD i Value.none = .ref q/\∃ (ii:List Value) (m:Nat) (tk:Tok),s.heap.get? q=some (seqObj "list" ii.toArray m)/\ii.toArray[0]?=some (.str (kd ks i).1 tk):=by
  intro i hi
  obtain ⟨qa,t,ev,h1,h2⟩:=kk.at (i:=i) (by omega)
  obtain ⟨w,ew,rw'⟩:=rv.get ev
  cases rw'
  obtain ⟨_,ii,m,ri,_,ei⟩:=I.lstM h1
  obtain ⟨w1,w2,rfl,⟨tk,rfl⟩,_⟩:=ri.two
  exact ⟨qa,by simp [ew],_,m,tk,ei,rfl⟩
 refine Calls.call_function_entry kind_sorted plain_sorted entry_sorted (args_sorted1 _) (show wpAny _ _ (Builtin.«sorted» _) _ _ _ from ?_)
 unfold Builtin.«sorted»
 refine wpAny_bind (m:=checkCount "sorted" 1 1 _) (wpAny_pure (wpAny_bind (collect_list (vs:=its) ⟨_,ea,rfl,n,rfl⟩ (wpAny_bind (wpAny_newList ?_ (by omega))) (by omega))))
 have hsz:((s.heap.push (seqObj "list" #[] 0)).update s.heap.objs.size (Obj.mapSeq (· ++ its.toArray))).objs.size=s.heap.objs.size + 1:=(Heap.size_update ..).trans (size_push' ..)
 have hoL:(((s.heap.push (seqObj "list" #[] 0)).update s.heap.objs.size (Obj.mapSeq (· ++ its.toArray))).push (seqObj "list" its.toArray 0)).get? (s.heap.objs.size + 1)=some (seqObj "list" its.toArray 0):=by rw [<- hsz]; exact Heap.get?_push_size _ rfl
 have hsz0:=hsz
 have old:∀ b o,s.heap.get? b=some o->b≠s.heap.objs.size + 1/\(((s.heap.push (seqObj "list" #[] 0)).update s.heap.objs.size (Obj.mapSeq (· ++ its.toArray))).push (seqObj "list" its.toArray 0)).get? b=some o:=fun b o e=>by
  have lt:=Heap.lt_size e
  refine ⟨Nat.ne_of_lt (Nat.lt_succ_of_lt lt),Heap.get?_push_of_some _ ?_⟩
  rw [Heap.get?_update_ne _ _ _ _ (Nat.ne_of_lt lt)]
  exact Heap.get?_push_of_some _ e
 show wpAny _ _ _ _ _ { s with heap:=((s.heap.push (seqObj "list" #[] 0)).update s.heap.objs.size (Obj.mapSeq (· ++ its.toArray))).push (seqObj "list" its.toArray 0) }; rw [hsz]
 have LO:LtOk its.length (ltK ks):=by rw [show its.length=ks.length by omega]; exact ltK_ok nd
 refine wpAny_bind (wpAny_holding (wpAny_call_entry slot_list_sort ⟨_,hoL,rfl⟩ entry_list_sort (sort_by hoL LO (by omega) (fun h' hk v hv => ?_) (fun h' hk i j C hi hj hij hC => ?_) fun p pp ps=>⟨_,rfl,?_⟩) (args_list_sort _)))
 ·obtain ⟨i,hi,ei⟩:=List.getElem_of_mem hv
  obtain ⟨qa,e1,ii,m,tk,e2,e3⟩:=row i hi
  have e4:v = .ref qa:=by rw [<- e1,<- ei]; simp [hi]
  subst e4
  exact fun A' Q' E' s' k' q'=>wpAny_typeOf ⟨_,k' _ _ (hk _ _ (old _ _ e2).1 (old _ _ e2).2),rfl⟩ q'
 ·obtain ⟨qa,e1,ii,m,tk,e2,e3⟩:=row i hi
  obtain ⟨qb,f1,jj,m',tk',f2,f3⟩:=row j hj
  rw [e1,f1]
  refine key_lt0 (hk _ _ (old _ _ e2).1 (old _ _ e2).2) (hk _ _ (old _ _ f2).1 (old _ _ f2).2) e3 f3 ?_ ?_ hC
  ·rw [beq_eq_false_iff_ne]
   intro e
   have z:ltK ks i j=false:=decide_eq_false (by rw [e]; exact List.lt_irrefl _)
   have z2:=LO.tot hi hj hij z
   exact absurd (of_decide_eq_true z2) (by rw [e]; exact List.lt_irrefl _)
  ·show X.A.units + 1 + 1 < cLine
   omega
 ·have hpl:p.length=its.length:=by rw [pp.length_eq,List.length_range]
  have hin:∀ i∈p,i < its.length:=fun i hi=>List.mem_range.mp (pp.mem_iff.mp hi)
  refine wpAny_pure ⟨_,rfl,?_⟩
  refine zc9 I (ys:=p.map fun i=>vs.getD i .non) (by rw [List.length_map]; omega) ?_ ?_
  ·rw [List.toList_toArray]
   exact rv.pick fun i hi=>by have:=hin i hi; omega
  ·refine q _ _ (p.map (kd ks)) (I.hok.fresh (Nat.le_succ _)) (kk.pick fun i hi=>by have:=hin i hi; omega) ?_ ?_
   ·have e:=pp.map (kd ks)
    rwa [show its.length=ks.length by omega,kd_range] at e
   ·refine sortedS_of_pairwise _ ?_
    rw [List.map_map,List.pairwise_map]
    refine ps.imp fun {i j} h => ?_
    have h:(kd ks i).1.cps.toList < (kd ks j).1.cps.toList:=of_decide_eq_true h
    show ltCps (kd ks j).1.cps.toList (kd ks i).1.cps.toList=false
    rw [ltCps_eq]
    exact decide_eq_false fun z=>List.lt_irrefl _ (List.lt_trans h z)
end
noncomputable def intsChk:List Value->List Int->Bool
 | [],[]=>true
 | .int i _ :: r,k :: s=>decide (i=k) && intsChk r s
 | _,_=>false
theorem zfn:∀ {us:List Value} {ns:List Int},intsChk us ns=true->Vals (ns.map V.int) us
 | [],[],_ => .nil
 | .int i t :: r,k :: s,h=>by
  simp only [intsChk,Bool.and_eq_true,decide_eq_true_eq] at h
  obtain ⟨rfl,h⟩:=h
  exact .cons ⟨t,rfl⟩ (zfn h)
 | [],_ :: _,h=>by cases h
noncomputable def tupChk (K:W.Frag) (a:Addr) (ns:List Int):Bool:=match K.lookup a with
 | some o=>(o.cls == .type "tuple") && match o.data with
  | .seq its _=>intsChk its.toList ns && decide (its.size<=1000)
  | _=>false
 | none=>false
theorem tup_chk {K:W.Frag} {a:Addr} {ns:List Int} (h:tupChk K a ns=true) (H:Hp):SqT K H a (ns.map V.int):=by
 unfold tupChk at h
 split at h
 ·rename_i o e
  rw [Bool.and_eq_true] at h
  obtain ⟨hc,h⟩:=h
  split at h
  ·rename_i its n ed
   rw [Bool.and_eq_true] at h
   exact .inr ⟨o,its,n,e,eq_of_beq hc,ed,big (of_decide_eq_true h.2),zfn h.1⟩
  ·cases h
 ·cases h
end L2
namespace L2
open PySem PySem.Spec PyProof.Rows
theorem zgf {J:It} {Ok:Hp->Prop} {L:List V} {tf:TT} {te:TE} {D:Addr} {σ0 capv:St} {H1:Hp} {Q:VK} (hσ : σ0=none :: capv) (G:Gives J Ok L) (hL:L.length<=sizeLine) (hD:H1 D=none) (hOk:∀ H,Same H1 H->Ok H) (p:Nat->Bool) (Rel:Hp->Nat->V->Prop)
  (hm:∀ H H' i v,Same H H'->Rel H i v->Rel H' i v) (hw:∀ H i v l l',v ≠ .ref D->H D=some (.lst l)->Rel H i v->Rel (upd H D (.lst l')) i v)
  (ht:∀ (i:Nat) x,L[i]?=some x->∀ H R,Same H1 H->(∀ H',Same H H'->R (p i) H')->tf (some x :: capv) H R)
  (he:∀ (i:Nat) x,L[i]?=some x->p i=true->∀ H R,Same H1 H->H D≠none->(∀ H' v,Same H H'->v ≠ .ref D->Rel H' i v->R v H')->te (some x :: capv) H R)
  (hd:∀ H ys,Same H1 H->H D=some (.lst ys)->Paired (fun i y=>y ≠ .ref D/\Rel H i y) ((List.range L.length).filter p) ys->Q (.ref D) H) :
  CompW J D σ0 H1 (gName 0) tf te Q:=by
 subst hσ
 refine zgg G (fun i xs σ H=>(∃ o,σ = o :: capv)/\Same H1 H/\H D=some (.lst xs)/\Paired (fun i y=>y ≠ .ref D/\Rel H i y) ((List.range i).filter p) xs) ⟨⟨none,rfl⟩,Same.new hD,upd_same,.nil⟩ (fun i xs σ H _ h=>hOk H h.2.1) ?_ ?_
 ·rintro i x xs σ H hi hx ⟨⟨o,rfl⟩,s,e,hr⟩
  show tf (some x :: capv) H _
  refine ht i x hx H _ s fun H' s' => ?_
  have hxl:xs.length<=i:=by
   rw [<- Paired.length hr]
   exact Nat.le_trans (List.length_filter_le _ _) (by rw [List.length_range]; omega)
  have efil:(List.range (i + 1)).filter p=(List.range i).filter p ++ if p i=true then [i] else []:=by
   rw [List.range_succ,List.filter_append]
   congr 1
   rw [List.filter_cons,List.filter_nil]
  cases hp:p i with
  | true =>
   rw [if_pos rfl]
   refine he i x hx hp H' _ (s.trans s') (by rw [s' _ _ e]; exact nofun) fun H2 v s2 hv rv => ?_
   have e2:=s2 _ _ (s' _ _ e)
   refine CNext.of hi hL e2 hxl ⟨⟨some x,rfl⟩,((s.trans s').trans s2).put hD,upd_same,?_⟩
   rw [efil,if_pos hp]
   exact Paired.snoc (Paired.mapP hr fun j y z=>⟨z.1,hw _ _ _ _ _ z.1 e2 (hm _ _ _ _ (s'.trans s2) z.2)⟩) ⟨hv,hw _ _ _ _ _ hv e2 rv⟩
  | false =>
   rw [if_neg Bool.false_ne_true]
   refine CSkip.of (xs:=xs) hi ⟨⟨some x,rfl⟩,s.trans s',s' _ _ e,?_⟩
   rw [efil,if_neg (by rw [hp]; exact Bool.false_ne_true),List.append_nil]
   exact Paired.mapP hr fun j y z=>⟨z.1,hm _ _ _ _ s' z.2⟩
 ·rintro xs σ H ⟨_,s,e,hr⟩
  exact hd H xs s e hr
theorem Paired.at {α β : Type} {R : α -> β -> Prop}:∀ {l:List α} {m:List β} {i:Nat} {x : α},Paired R l m->l[i]?=some x->∃ y,m[i]?=some y/\R x y
 | _,_,i,x,.nil,h=>by simp at h
 | _,_,0,x,.cons h r,e=>by
  simp at e
  subst e
  exact ⟨_,rfl,h⟩
 | _,_,i + 1,x,.cons h r,e=>by
  obtain ⟨y,e1,e2⟩:=Paired.at (i:=i) r (by simpa using e)
  exact ⟨y,by simpa using e1,e2⟩
theorem zdl {J:It} {Ok:Hp->Prop} {L:List V} {tf:TT} {te:TE} {D:Addr} {σ0 capv:St} {H1:Hp} {Q:VK} (hσ : σ0=none :: capv) (G:Gives J Ok L) (hL:L.length<=sizeLine) (hD:H1 D=none) (hOk:∀ H,Same H1 H->Ok H) (p:Nat->Bool) (F:Nat->V) (hF:∀ i,i < L.length->p i=true->F i ≠ .ref D)
  (ht:∀ (i:Nat) x,L[i]?=some x->∀ H R,Same H1 H->(∀ H',Same H H'->R (p i) H')->tf (some x :: capv) H R)
  (he:∀ (i:Nat) x,L[i]?=some x->p i=true->∀ H R,Same H1 H->(∀ H',Same H H'->R (F i) H')->te (some x :: capv) H R)
  (hd:∀ H,Same H1 H->H D=some (.lst (((List.range L.length).filter p).map F))->Q (.ref D) H) :
  CompW J D σ0 H1 (gName 0) tf te Q:=by
 refine zgf hσ G hL hD hOk p (fun _ i v=>v=F i) (fun _ _ _ _ _ h=>h) (fun _ _ _ _ _ _ _ h=>h) ht (fun i x hx hp H R s _ h=>he i x hx hp H R s fun H' s'=>h H' _ s' (hF i (List.getElem?_eq_some_iff.mp hx).1 hp) rfl) fun H ys s e pr=>hd H s ?_
 rw [e]
 have:∀ {l:List Nat} {m:List V},Paired (fun i y=>y ≠ .ref D/\y=F i) l m->m=l.map F:=by
  intro l m q
  induction q with
  | nil=>rfl
  | cons h _ ih=>rw [List.map_cons,<- ih,h.2]
 rw [this pr]
noncomputable def nmSort (cs:Combs):List Str:=(cs.map (·.1)).mergeSort fun a b=>decide (a.cps.toList<=b.cps.toList)
theorem zeC (cs:Combs):(nmSort cs).Perm (cs.map (·.1)):=List.mergeSort_perm _ _
theorem zd6 (cs:Combs):sortedS (nmSort cs)=true:=by
 refine sortedS_of_pairwise _ ?_
 have h:=List.pairwise_mergeSort (le:=fun a b:Str=>decide (a.cps.toList<=b.cps.toList)) (fun a b c h1 h2=>decide_eq_true (List.le_trans (of_decide_eq_true h1) (of_decide_eq_true h2))) (fun a b=>by
  rcases List.le_total a.cps.toList b.cps.toList with h | h
  ·rw [decide_eq_true h]; rfl
  ·rw [decide_eq_true h,Bool.or_true]) (cs.map (·.1))
 exact h.imp fun {a b} h=>sle_iff.mp (show a.cps.toList<=b.cps.toList from of_decide_eq_true h)
noncomputable def srt (cs:Combs):Combs:=byNames cs (nmSort cs)
theorem zcm {cs:Combs} (nd:(cs.map (·.1)).Nodup) {c:Str×List Int} (h:c∈cs):cGet cs c.1=some c.2:=by
 induction cs with
 | nil=>cases h
 | cons d cs ih =>
  rw [zcz]
  rw [List.map_cons,List.nodup_cons] at nd
  rcases List.mem_cons.mp h with rfl | h
  ·exact if_pos rfl
  ·rw [if_neg (fun z:d.1=c.1=>nd.1 (z ▸ List.mem_map.mpr ⟨c,h,rfl⟩))]
   exact ih nd.2 h
theorem zgh {cs ks:Combs} (nd:(cs.map (·.1)).Nodup) (p:ks.Perm cs):byNames cs (ks.map (·.1))=ks:=by
 unfold byNames
 rw [List.map_map]
 conv=>rhs; rw [<- List.map_id ks]
 refine List.map_congr_left fun k hk => ?_
 show (k.1,(cGet cs k.1).getD [])=k
 rw [zcm nd (p.mem_iff.mp hk)]
 rfl
theorem ze1 {cs:Combs} (nd:(cs.map (·.1)).Nodup):(srt cs).Perm cs:=by
 have h:(byNames cs (nmSort cs)).Perm (byNames cs (cs.map (·.1))):=(zeC cs).map _
 rw [zgh nd (List.Perm.refl _)] at h
 exact h
noncomputable def stp (C:Combs) (s:Nat):List (Str×Int):=stepsOf C (s:Int)
noncomputable abbrev tr (r:List Bool) (s:Nat):Bool:=r.getD s false
noncomputable def GC (C:Combs):Prop:=∀ c∈C,GT c.2
theorem zcr {C:Combs} (g:GC C) {s:Nat} (h:s < 128) {p:Str×Int} (hp:p∈stp C s):0<=p.2/\p.2.toNat < 128:=by
 have:=steps_lt (n:=(s:Int)) (by omega) (by omega) g p hp
 omega
theorem zbi (lo:Int) (n:Nat):((List.range n).map fun i=>V.int (lo + ((i:Nat):Int))).length=n:=by rw [List.length_map,List.length_range]
theorem at0 {x y:V}:atI [x,y] 0=some x:=show atI [x,y] ((0:Nat):Int)=_ from zas rfl
theorem at1 {x y:V}:atI [x,y] 1=some y:=show atI [x,y] ((1:Nat):Int)=_ from zas rfl
theorem zds {C:Combs} (h8:C.length<=8) (s:Nat):(stp C s).length<=8:=by
 unfold stp
 by_cases e:(s:Int) % 2=1
 ·rw [zb7 e]; exact Nat.le_of_ble_eq_true rfl
 ·exact Nat.le_trans (steps_len e) h8
theorem zgM {α : Type} {ws:List α} {m:Nat} {x : α} (hl:ws.length=m + 1) (h:ws[m]?=some x):atI ws (-1)=some x:=by
 have hne:ws ≠ []:=fun z=>by rw [z] at hl; simp at hl
 have e:ws=ws.dropLast ++ [ws.getLast hne]:=(List.dropLast_concat_getLast hne).symm
 have e2:ws.getLast hne=x:=by
  rw [List.getLast_eq_getElem]
  have:ws[m]?=some (ws[ws.length - 1]'(by omega)):=by rw [List.getElem?_eq_getElem (by omega)]; congr 2; omega
  rw [h] at this
  exact (Option.some.inj this).symm
 rw [e,e2]
 exact at_last _ _
section
variable {X:Cx}
end
theorem zaX:∀ (n:Nat) (l:List Nat),l.Nodup->(∀ x∈l,x < n)->l.length<=n
 | 0,[],_,_=>Nat.le_refl _
 | 0,x :: l,_,h=>absurd (h x List.mem_cons_self) (by omega)
 | n + 1,l,nd,h=>by
  by_cases hn:n∈l
  ·have e:=List.length_erase_of_mem hn
   have:=zaX n (l.erase n) (nd.erase n) (fun x hx=>by
    have h1:=h x (List.mem_of_mem_erase hx)
    have h2:x≠n:=((List.Nodup.mem_erase_iff nd).mp hx).1
    omega)
   omega
  ·have:=zaX n l nd (fun x hx=>by
    have h1:=h x hx
    have h2:x≠n:=fun z=>hn (z ▸ hx)
    omega)
   omega
noncomputable def nx (C:Combs) (row:List Bool) (s:Nat):Option (Str×Int):=(stp C s).find? fun p=>tr row p.2.toNat
noncomputable def LaysR (H:Hp) (vs:List V) (n:Nat->Str) (i:Nat):Prop:=Paired (fun (j:Nat) (v:V)=>∃ q,v = .ref q/\H q=some (.tup [.int (j:Int),.str (n j)])) ((List.range i).filter fun j=>decide (n j≠Str.ofString "")) vs
theorem LaysR.mono {H H':Hp} {vs:List V} {n:Nat->Str} {i:Nat} (m:∀ q xs,H q=some (.tup xs)->H' q=some (.tup xs)) (r:LaysR H vs n i):LaysR H' vs n i:=Paired.mapP r fun _ _ ⟨q,a,b⟩=>⟨q,a,m _ _ b⟩
theorem LaysR.skip {H:Hp} {vs:List V} {n:Nat->Str} {i:Nat} (r:LaysR H vs n i) (h:n i=Str.ofString ""):LaysR H vs n (i + 1):=by
 unfold LaysR
 rw [List.range_succ,List.filter_append,List.filter_cons,if_neg (by simpa using h),List.filter_nil,List.append_nil]
 exact r
theorem LaysR.snoc {H:Hp} {vs:List V} {n:Nat->Str} {i:Nat} {q:Addr} (r:LaysR H vs n i) (h:n i≠Str.ofString "") (hq:H q=some (.tup [.int (i:Int),.str (n i)])):LaysR H (vs ++ [.ref q]) n (i + 1):=by
 unfold LaysR
 rw [List.range_succ,List.filter_append,List.filter_cons,if_pos (by simpa using h),List.filter_nil]
 exact Paired.snoc r ⟨q,rfl,hq⟩
theorem LaysR.len {H:Hp} {vs:List V} {n:Nat->Str} {i:Nat} (r:LaysR H vs n i):vs.length<=i:=by
 rw [<- Paired.length r]
 exact Nat.le_trans (List.length_filter_le _ _) (by rw [List.length_range]; omega)
theorem filter_idx {α : Type} (js:List α) (p : α -> Bool) (d : α):((List.range js.length).filter fun i=>p (js.getD i d)).map (fun i=>js.getD i d)=js.filter p:=by
 induction js with
 | nil=>rfl
 | cons x js ih =>
  rw [List.length_cons,List.range_succ_eq_map,List.filter_cons,List.filter_cons,List.filter_map]
  show _=if p x=true then x :: js.filter p else js.filter p
  have e:List.map (fun i=>(x :: js).getD i d) (List.map Nat.succ (List.filter ((fun i=>p ((x :: js).getD i d)) ∘ Nat.succ) (List.range js.length)))=js.filter p:=by
   rw [List.map_map,<- ih]
   rfl
  by_cases h:p x=true
  ·rw [if_pos (by simpa using h),if_pos h,List.map_cons,e]
   rfl
  ·rw [if_neg (by simpa using h),if_neg h,e]
section
variable {prog:Program} {w:World} {A:Around} {E:Value->Shared->Prop} {s:Shared} {d it:Addr} {o:Obj} {es:Array DictEntry} {ep i:Nat}
theorem ed_type (ho:s.heap.get? d=some o) (hc:o.ExactDict):s.TypeIs (.ref d) "dict" := ⟨o,ho,hc.1⟩
theorem ed_iter {Q:Value->Shared->Prop} (hd:(d == sysModules)=false) (ho:s.heap.get? d=some o) (hc:o.ExactDict) (hdat:o.data = .dict es ep)
  (hQ:Q (.ref s.heap.objs.size) { s with heap:=s.heap.push { cls := .type "dict_keyiterator",data := .fields #[.ref d,.int 0 0,.int es.size 0,.int ep 0] } }):wpAny (model prog w) A (pyIter (.ref d)) Q E s:=by
 have hT:=ed_type ho hc
 refine wpAny_pyIter_slot hT F.slot_dict_iter (wpAny_call_entry F.slot_dict_iter hT F.entry_dict_iter (show wpAny _ _ (Builtin.«dict.__iter__» _) _ _ _ from ?_) (F.args_dict_iter_1 _))
 unfold Builtin.«dict.__iter__»; refine wpAny_bind ?_
 unfold Builtin.Dict.dictSlotNone; refine wpAny_bind (wpAny_notOrdered_dict hT (show wpAny _ _ (pure (Value.ref d)) _ _ s from wpAny_pure (show wpAny _ _ (Builtin.Dict.showsAll d >>= _) _ _ s from ?_)))
 unfold Builtin.Dict.showsAll; rw [if_neg (by rw [hd]; exact Bool.false_ne_true)]
 refine wpAny_bind (wpAny_pure (wpAny_bind (wpAny_dictEntries ho hdat (wpAny_bind (wpAny_dictEpoch ho hdat (wpAny_bind (wpAny_newObj_type (wpAny_pure ⟨_,rfl,"dict_keyiterator",_,⟨_,Heap.get?_push_size _ rfl,rfl⟩,F.slot_dict_keyiterator_next.lookup,?_⟩))))))))
 simpa [rawInt] using hQ
theorem ed_next {Q:Option Value->Shared->Prop} (hit:s.heap.IsKeyIter it d i es.size ep) (hod:s.heap.get? d=some o) (hdd:o.data = .dict es ep) (hlt:i < es.size)
  (hQ:∀ h',h'.IsKeyIter it d (i + 1) es.size ep->Heap.SameBut it s.heap h'->Q (some es[i].key) { s with heap:=h' }):wpAny (model prog w) A (pyNext (.ref it)) Q E s:=by
 obtain ⟨oi,hi,hc,hd⟩:=id hit
 have hown:Builtin.Dict_items.ownsTuple "dict_keyiterator" = false:=by decide
 unfold pyNext
 refine wpAny_bind (wpAny_attempt (wpAny_callSpecial?_slot (name:=Str.ofString "__next__") hit.typeIs F.slot_dict_keyiterator_next (wpAny_call_entry F.slot_dict_keyiterator_next hit.typeIs F.entry_dict_keyiterator_next ?_ (F.args_dict_keyiterator_next_1 _))))
 refine wpAny_bind (wpAny_pure (wpAny_bind (wpAny_bind ?_)))
 first | refine wpAny_bind (wpAny_typeNameOfWhole_keyiter hit.typeIs (wpAny_pure (wpAny_bind (wpAny_fieldsOf hi hd ?_)))) | refine wpAny_bind (wpAny_typeNameOf_keyiter hit.typeIs (wpAny_pure (wpAny_bind (wpAny_fieldsOf hi hd ?_))))
 simp only [hown,Bool.false_eq_true,if_false]
 show wpAny _ _ (if (Value.ref d == Value.none)=true then _ else _) _ _ s
 rw [if_neg (show ¬ ((Value.ref d == Value.none)=true) from Bool.false_ne_true)]; refine wpAny_bind (wpAny_pure (wpAny_bind (wpAny_dictEntries hod hdd ?_)))
 rw [if_neg (by simp)]; refine wpAny_bind (wpAny_pure (wpAny_bind (wpAny_dictEpoch hod hdd ?_)))
 rw [if_neg (by simp)]; refine wpAny_pure ?_
 simp only [show ¬ ((i:Int) < 0) from by omega,if_false,Int.toNat_natCast,Array.getElem?_eq_getElem hlt]; refine wpAny_bind ?_
 first | refine wpAny_bind (wpAny_typeNameOfWhole_keyiter hit.typeIs (wpAny_pure (wpAny_bind (wpAny_isOneOf_keyiter hit.typeIs ?_)))) | refine wpAny_bind (wpAny_typeNameOf_keyiter hit.typeIs (wpAny_pure (wpAny_bind (wpAny_isOneOf_keyiter hit.typeIs ?_))))
 have hit':(s.heap.update it (Obj.mapFields (·.setIfInBounds 1 (rawInt ((i:Int) + 1))))).IsKeyIter it d (i + 1) es.size ep:=⟨_,Heap.get?_update_self _ hi (Obj.isFreed_of_fields (Obj.data_mapFields hd _)),(Obj.cls_mapFields ..).trans hc,by rw [Obj.data_mapFields hd]; simp [rawInt]⟩
 refine (show wpAny _ _ (setField (.ref it) 1 (rawInt ((i:Int) + 1)) >>= _) _ _ s from wpAny_bind (wpAny_setField hi hd (by simp) (wpAny_bind (wpAny_holding (wpAny_bind (wpAny_isOneOf_keyiter (s:={ s with heap:=s.heap.update it (Obj.mapFields (·.setIfInBounds 1 (rawInt ((i:Int) + 1)))) }) hit'.typeIs ?_))))))
 show wpAny _ _ (pure es[i].key) _ _ _
 exact wpAny_pure (wpAny_pure ⟨_,rfl,wpAny_pure (hQ _ hit' (Heap.SameBut.update ..))⟩)
theorem ed_end {Q:Option Value->Shared->Prop} (hh:A.handled=none) (hit:s.heap.IsKeyIter it d i es.size ep) (hod:s.heap.get? d=some o) (hdd:o.data = .dict es ep) (hge:es.size<=i)
  (hQ:∀ h',Heap.ExtBut it s.heap h'->Q none { s with heap:=h' }):wpAny (model prog w) A (pyNext (.ref it)) Q E s:=by
 obtain ⟨oi,hi,hc,hd⟩:=id hit
 have hown:Builtin.Dict_items.ownsTuple "dict_keyiterator" = false:=by decide
 unfold pyNext
 refine wpAny_bind (wpAny_attempt (wpAny_callSpecial?_slot (name:=Str.ofString "__next__") hit.typeIs F.slot_dict_keyiterator_next (wpAny_call_entry F.slot_dict_keyiterator_next hit.typeIs F.entry_dict_keyiterator_next ?_ (F.args_dict_keyiterator_next_1 _))))
 refine wpAny_bind (wpAny_pure (wpAny_bind (wpAny_bind ?_)))
 first | refine wpAny_bind (wpAny_typeNameOfWhole_keyiter hit.typeIs (wpAny_pure (wpAny_bind (wpAny_fieldsOf hi hd ?_)))) | refine wpAny_bind (wpAny_typeNameOf_keyiter hit.typeIs (wpAny_pure (wpAny_bind (wpAny_fieldsOf hi hd ?_))))
 simp only [hown,Bool.false_eq_true,if_false]
 show wpAny _ _ (if (Value.ref d == Value.none)=true then _ else _) _ _ s
 rw [if_neg (show ¬ ((Value.ref d == Value.none)=true) from Bool.false_ne_true)]; refine wpAny_bind (wpAny_pure (wpAny_bind (wpAny_dictEntries hod hdd ?_)))
 rw [if_neg (by simp)]; refine wpAny_bind (wpAny_pure (wpAny_bind (wpAny_dictEpoch hod hdd ?_)))
 rw [if_neg (by simp)]; refine wpAny_pure ?_
 simp only [show ¬ ((i:Int) < 0) from by omega,if_false,Int.toNat_natCast,Array.getElem?_eq_none hge]; refine wpAny_bind ?_
 first | refine wpAny_bind (wpAny_typeNameOfWhole_keyiter hit.typeIs (wpAny_pure ?_)) | refine wpAny_bind (wpAny_typeNameOf_keyiter hit.typeIs (wpAny_pure ?_))
 refine (show wpAny _ _ (setField (.ref it) 0 .none >>= _) _ _ s from wpAny_bind (wpAny_setField hi hd (by simp) (show wpAny _ _ (newExc (.type "StopIteration") [] >>= _) _ _ _ from wpAny_bind ?_)))
 simp only [newExc,newTuple]; refine wpAny_bind (wpAny_newObj_type ?_ (by size_fits))
 refine wpAny_bind (m:=firstArgMember _ _) (wpAny_of_eq (a:=Value.none) (by first | rfl | (simp only [firstArgMember]; rfl)) (wpAny_newObj_type ?_ (by size_fits)))
 simp only [raiseNew]; refine wpAny_bind (wpAny_handled ?_); rw [show A.in1.handled=none from hh]
 refine wpAny_bind (wpAny_pure (wpAny_throw ?_)); refine wpAny_bind (wpAny_isInstance (T := "StopIteration") (b:=true) ⟨_,Heap.get?_push_size _ rfl,rfl⟩ isSubtype_stop ?_); exact wpAny_pure (hQ _ (((Heap.SameBut.update ..).extBut.push _).push _))
end
theorem Paired.rev {α β : Type} {R : α -> β -> Prop}:∀ {l:List α} {m:List β} {i:Nat} {y : β},Paired R l m->m[i]?=some y->∃ x,l[i]?=some x/\R x y
 | _,_,i,x,.nil,h=>by simp at h
 | _,_,0,x,.cons h r,e=>by
  simp at e
  subst e
  exact ⟨_,rfl,h⟩
 | _,_,i + 1,x,.cons h r,e=>by
  obtain ⟨y,e1,e2⟩:=Paired.rev (i:=i) r (by simpa using e)
  exact ⟨y,by simpa using e1,e2⟩
section
variable {X:Cx} {pins:List (Addr×Obj)} {σ : St} {H:Hp} {s:Shared} {a:Addr} {kvs:List (List Key×V)}
theorem Inv.freezeT (I:Inv X pins σ H s) (h:H a=some (.dT kvs)):∃ o,s.heap.get? a=some o/\Inv X pins σ (upd H a (.frz o (.dT kvs))) s:=by
 have ok:=(show ObjOk X.prog X.w H s.heap a (.dT kvs) from I.hok a _ h)
 obtain ⟨o,ho⟩:=ok.there
 refine ⟨o,ho,?_⟩
 have:=Inv.write (x:=a) (e:=a) (o := .frz o (.dT kvs)) (h':=s.heap) (t':=s.toks) I (by rw [h]; trivial) (.inl rfl) (fun _ _ _ q=>q) ⟨o,ho⟩ ⟨ho,ok.stay (fun _ _ _ q=>q) (fun b q=>by rw [zag (fun z=>by rw [z,h] at q; cases q)]; exact q) fun b xs q=>by rw [zag (fun z=>by rw [z,h] at q; cases q)]; exact q⟩
 exact this
theorem Inv.unfreezeT {o:Obj} (I:Inv X pins σ H s) (h:H a=some (.frz o (.dT kvs))) (h0:∀ o u,X.H₀ a≠some (.frz o u)):Inv X pins σ (upd H a (.dT kvs)) s:=by
 have nn:∀ b,H b=none->b≠a:=fun b q z=>by rw [z,h] at q; cases q
 obtain ⟨ho,ok⟩:=(show ObjOk X.prog X.w H s.heap a (.frz o (.dT kvs)) from I.hok a _ h)
 have own:∀ b y,H b=some (.own y)->upd H a (.dT kvs) b=some (.own y):=fun b y q=>by rw [zag (fun z=>by rw [z,h] at q; cases q)]; exact q
 have tups:∀ b xs,H b=some (.tup xs)->upd H a (.dT kvs) b=some (.tup xs):=fun b y q=>by rw [zag (fun z=>by rw [z,h] at q; cases q)]; exact q
 refine ⟨I.ok,I.os,I.bare,⟨I.base.keep,I.base.slot,fun b u q n hx => ?_,I.base.there,fun b xs q=>tups b xs (I.base.tups b xs q),fun b u v q => ?_,fun b ps q => ?_⟩,I.loc,I.cell,?_,fun y c e => ?_,fun p hp => ?_,fun b u q => ?_,I.len⟩
 ·have:=I.base.free b u q n hx
  rw [zag (nn b this)]; exact this
 ·have q':=I.base.frzs b u v q
  rw [zag (fun z=>h0 _ _ (z ▸ q))]; exact q'
 ·obtain ⟨m,e⟩:=I.base.tbls b ps q
  exact ⟨m,by rw [zag (fun z=>by rw [z,h] at e; cases e)]; exact e⟩
 ·rw [zag (nn _ I.free)]; exact I.free
 ·rw [zag (nn _ (I.freeC y c e))]; exact I.freeC y c e
 ·obtain ⟨e1,e2,e3,e4,e5⟩:=I.pin p hp
  exact ⟨e1,by rw [zag (nn _ e2)]; exact e2,e3,e4,e5⟩
 ·by_cases hb:b=a
  ·subst hb
   rw [upd_same] at q
   cases q
   exact ok.stay (fun _ _ _ q=>q) (fun c q=>own c _ q) tups
  ·rw [zag hb] at q
   exact (I.hok b u q).stay (fun _ _ _ q=>q) (fun c q=>own c _ q) tups
end
noncomputable def IttD (a:Addr) (o:Obj) (kvs:List (List Key×V)):It:=⟨fun i H=>H a=some (.frz o (.dT kvs))/\i < kvs.length,fun i H v H'=>H'=H/\∃ k y b,kvs[i]?=some (k,y)/\v = .ref b/\H b=some (.tup (k.map kV)),fun i H=>H a=some (.frz o (.dT kvs))/\kvs.length<=i⟩
theorem zeH {X:Cx} {pins:List (Addr×Obj)} {σ : St} {H:Hp} {s:Shared} {a:Addr} {o:Obj} {kvs:List (List Key×V)} {es:Array DictEntry} {ep:Nat} (I:Inv X pins σ H s) (h:H a=some (.frz o (.dT kvs))) (hd:o.data = .dict es ep) :
  s.heap.get? a=some o/\(a == sysModules)=false/\o.ExactDict/\es.size=kvs.length/\∀ i (hi:i < es.size),∃ k y b,kvs[i]?=some (k,y)/\es[i].key = .ref b/\H b=some (.tup (k.map kV)):=by
 obtain ⟨ho,hz,lo,xs,kt,o',es',ep',ho',c,d,r,_⟩:=(show ObjOk X.prog X.w H s.heap a (.frz o (.dT kvs)) from I.hok a _ h)
 rw [ho] at ho'
 cases ho'
 rw [hd] at d
 cases d
 have hl:=Paired.length kt
 have hl2:es.size=xs.length:=by rw [<- Array.length_toList,r,List.length_map]
 refine ⟨ho,lo,c,by omega,fun i hi => ?_⟩
 have e1:es.toList[i]?=some es[i]:=by simp [hi]
 rw [r,List.getElem?_map] at e1
 cases ex:xs[i]? with
 | none=>rw [ex] at e1; cases e1
 | some x =>
  rw [ex] at e1
  obtain ⟨p,ep,h1,h2,h3⟩:=Paired.rev kt ex
  refine ⟨p.1,p.2,x.2.1,ep,?_,h2⟩
  rw [<- Option.some.inj e1]
  rfl
theorem turn_dictT {P:Program} {w:World} {K:W.Frag} {tg:Expr} (a it:Addr) (o:Obj) (kvs:List (List Key×V)) (es:Array DictEntry) (ep:Nat) (hd:o.data = .dict es ep) :
  Turn P w K tg (IttD a o kvs) [it] it (fun i h=>h.IsKeyIter it a i es.size ep) where
 mem:=by simp
 obj:=fun i h st b hb=>by
  have e:b=it:=by simpa using hb
  subst e
  obtain ⟨o,e,c,d⟩:=st
  exact ⟨o,e,fun v z=>by rw [d] at z; cases z⟩
 keep:=fun i h h' st k=>by
  obtain ⟨o,e,r⟩:=st
  exact ⟨o,k it (by simp) o e,r⟩
 item:=by
  intro X hP hw hK hc i pins s σ H E I hf st hg
  subst hP hw hK
  obtain ⟨hz,hi⟩:=hg
  obtain ⟨ho,lo,hex,hsz,hk⟩:=zeH I hz hd
  obtain ⟨f0,f1,f2,f3,f4,f5⟩:=hf it (by simp)
  obtain ⟨k,y,b,e1,e2,e3⟩:=hk i (by omega)
  refine ed_next st ho hd (by omega) fun h' st' sb => ?_
  have I1:Inv X pins σ H { s with heap:=h' }:=I.turned (t':=s.toks) (fun b o hb e=>(sb.2 b hb).trans e) f0 f1 f3 f4 f5
  obtain ⟨o',e,c,d⟩:=id st'
  refine ⟨_,rfl,zf5 (s:={ s with heap:=h' }) e c d (by decide) ⟨.ref b,H,I1,e2,⟨rfl,k,y,b,e1,rfl,e3⟩,st',fun b hb=>(hf b hb).1⟩⟩
 done:=by
  intro X hP hw hK hc i pins s σ H E I hf st hg
  subst hP hw hK
  obtain ⟨hz,hi⟩:=hg
  obtain ⟨ho,lo,hex,hsz,hk⟩:=zeH I hz hd
  obtain ⟨f0,f1,f2,f3,f4,f5⟩:=hf it (by simp)
  exact ed_end (I.ok.hd hc) st ho hd (by omega) fun h' eb=>⟨rfl,I.turned (t':=s.toks) (fun b o hb e=>eb b o hb e) f0 f1 f3 f4 f5⟩
 self:=fun A i s Q E st h=>by
  obtain ⟨o,e,c,d⟩:=st
  exact wpAny_pyIter_keyiter ⟨o,e,c,d⟩ h
section
variable {X:Cx} {tg:Expr}
noncomputable def iDicT (i:Nat):TI:=fun σ H R=>∃ a o kvs,σ[i]?=some (some (.ref a))/\H a=some (.frz o (.dT kvs))/\R (IttD a o kvs) H
theorem pi_dicT {i:Nat} {x:Str} {np:Pos} (hx:PE X (.Name x np) (tVar i)):PI X tg (.Name x np) (iDicT i):=by
 intro pins s σ H R I h
 obtain ⟨a,o,kvs,hσ,ha,q⟩:=h
 refine thnE (hx pins s σ H (fun v H1=>v = .ref a/\H1=H) I ⟨_,hσ,rfl,rfl⟩) fun v s1 y H1 I1 r1 ⟨e1,e2⟩ => ?_
 subst e1 e2
 cases r1
 obtain ⟨ho,_,_,_,_,o',es,ep,ho',_,d,_⟩:=(show ObjOk X.prog X.w H1 s1.heap a (.frz o (.dT kvs)) from I1.hok a _ ha)
 rw [ho] at ho'
 cases ho'
 obtain ⟨_,lo,hex,hsz,_⟩:=zeH I1 ha d
 refine ed_iter lo ho hex d ?_
 refine ⟨s1.heap.objs.size,[s1.heap.objs.size],_,_,H1,rfl,I1.kept (t':=s1.toks) fun b o e=>Heap.get?_push_of_some _ e,turn_dictT a _ o kvs es ep d,?_,fun b hb => ?_,q⟩
 ·exact ⟨_,Heap.get?_push_size _ rfl,rfl,rfl⟩
 ·have e:b=s1.heap.objs.size:=by simpa using hb
  subst e
  exact I1.fpOk (Nat.le_refl _) (I1.hok.fresh (Nat.le_refl _))
noncomputable def DfrzT (a:Addr) (o:Obj) (kvs:List (List Key×V)) (D:Ends):Ends:={ nx:=fun σ H=>H a=some (.frz o (.dT kvs))/\D.nx σ (upd H a (.dT kvs)),rt:=fun v H=>H a=some (.frz o (.dT kvs))/\D.rt v (upd H a (.dT kvs)),bk:=fun σ H=>H a=some (.frz o (.dT kvs))/\D.bk σ (upd H a (.dT kvs)),ct:=fun σ H=>H a=some (.frz o (.dT kvs))/\D.ct σ (upd H a (.dT kvs)) }
noncomputable def tForT (i:Nat) (g:TG) (tb:TS):TS:=fun D σ H=>∃ a kvs,σ[i]?=some (some (.ref a))/\H a=some (.dT kvs)/\∀ o,∃ W:Nat->Nat->St->Hp->Prop,(∃ m,W 0 m σ (upd H a (.frz o (.dT kvs))))/\∀ j m σ H,W j m σ H ->
 ((IttD a o kvs).stop j H/\(DfrzT a o kvs D).nx σ H)\/((IttD a o kvs).go j H/\∃ N:St->Hp->Prop,(∀ σ' H',N σ' H'->∃ m',m' < m/\W (j + 1) m' σ' H') /\
  ∀ x H',(IttD a o kvs).yld j H x H'->g x σ H' fun σ2 H2=>tb { DfrzT a o kvs D with nx:=N,ct:=N,bk:=(DfrzT a o kvs D).nx } σ2 H2)
theorem zfO {i:Nat} {x:Str} {body:List Stmt} {g:TG} {tb:TS} {np pos:Pos} (hp:PassesOwn (model X.prog X.w) X.A X.env X.xe) (hc:X.calm=true) (hx:PE X (.Name x np) (tVar i)) (hg:PG X tg g) (hb:PSs X body tb)
  (hs:∀ y,foldedSetIterable (.Name x np) X.env y=pure y:=by intro _; rfl):PS X (.For tg (.Name x np) body [] pos) (tForT i g tb):=by
 intro pins s σ H D I h
 obtain ⟨a,kvs,hσ,ha,h⟩:=h
 obtain ⟨o,ho,I1⟩:=I.freezeT ha
 have h0:∀ o u,X.H₀ a≠some (.frz o u):=fun o' u z=>by
  have:=I.base.frzs a o' u z
  rw [ha] at this
  cases this
 refine wpAny_mono (zaT hp hc (pi_dicT hx) hg hb hs pins s σ (upd H a (.frz o (.dT kvs))) (DfrzT a o kvs D) I1 ⟨a,o,kvs,hσ,upd_same,h o⟩) (fun f s' q => ?_) fun _ _ z=>z
 cases f with
 | next=>obtain ⟨σ',H',J,e,q⟩:=q; exact ⟨σ',_,J.unfreezeT e h0,q⟩
 | brk=>obtain ⟨σ',H',J,e,q⟩:=q; exact ⟨σ',_,J.unfreezeT e h0,q⟩
 | cont=>obtain ⟨σ',H',J,e,q⟩:=q; exact ⟨σ',_,J.unfreezeT e h0,q⟩
 | ret u=>obtain ⟨v,σ',H',J,r,e,q⟩:=q; exact ⟨v,σ',_,J.unfreezeT e h0,r,q⟩
end
section
variable {prog:Program} {w:World} {A:Around} {E:Value->Shared->Prop} {s:Shared} {d:Addr} {o:Obj} {es:Array DictEntry} {ep:Nat}
end
noncomputable def kI (ns:List Int):List Key:=ns.map Sum.inl
theorem kI_V (ns:List Int):(kI ns).map kV=ns.map V.int:=by unfold kI; rw [List.map_map]; rfl
theorem zec:∀ {a b:List Int},kI a=kI b->a=b
 | [],[],_=>rfl
 | [],_ :: _,h=>by cases h
 | _ :: _,[],h=>by cases h
 | x :: a,y :: b,h=>by
  unfold kI at h
  rw [List.map_cons,List.map_cons] at h
  injection h with h1 h2
  injection h1 with h1
  rw [h1,zec h2]
section
variable {X:Cx}
end
theorem ahead_inj {a b:Nat} (ha:a < 128) (hb:b < 128) (h:aheadOf (a:Int)=aheadOf (b:Int)):a=b:=by
 have h1:=za7 (n:=(a:Int)) (by omega) (by omega)
 have h2:=za7 (n:=(b:Int)) (by omega) (by omega)
 rw [h,h2] at h1
 omega
noncomputable def akey (s:Nat):List Key:=kI (aheadOf (s:Int))
theorem zcC {a b:Nat} (ha:a < 128) (hb:b < 128) (h:akey a=akey b):a=b:=ahead_inj ha hb (zec h)
theorem valV_mem {κ : Type} [DecidableEq κ] {kvs:List (κ × V)} {k : κ}:(valV kvs k).isSome=true ↔ k∈kvs.map (·.1):=by
 rw [<- zbf,List.any_eq_true,List.mem_map]
 constructor
 ·rintro ⟨x,hx,e⟩; exact ⟨x,hx,of_decide_eq_true e⟩
 ·rintro ⟨x,hx,e⟩; exact ⟨x,hx,decide_eq_true e⟩
theorem zev {κ : Type} [DecidableEq κ]:∀ {kvs:List (κ × V)} {i:Nat} {k : κ} {v:V},(kvs.map (·.1)).Nodup->kvs[i]?=some (k,v)->valV kvs k=some v
 | [],_,_,_,_,h=>by simp at h
 | p :: kvs,0,k,v,nd,h=>by
  simp at h
  subst h
  exact zaW rfl
 | p :: kvs,i + 1,k,v,nd,h=>by
  rw [List.map_cons,List.nodup_cons] at nd
  have h':kvs[i]?=some (k,v):=by simpa using h
  rw [zaQ (fun z=>nd.1 (z ▸ List.mem_map.mpr ⟨(k,v),List.mem_of_getElem? h',rfl⟩))]
  exact zev nd.2 h'
theorem za9 {ks:Combs} {s:Nat} (hs:s < 128) (g:GC ks):(goesOf ks (aheadOf (s:Int))).map (fun p=>(p.1,worth p.2))=stp ks s:=zc7 (by omega) (by omega) g
theorem zbz {ks:Combs} {s:Nat} (hs:s < 128) (g:GC ks) {p:Str×List Int} (hp:p∈goesOf ks (aheadOf (s:Int))):(worth p.2).toNat < 128/\0<=worth p.2/\kI p.2=akey (worth p.2).toNat/\(p.1,worth p.2)∈stp ks s:=by
 have hm:(p.1,worth p.2)∈stp ks s:=by rw [<- za9 hs g]; exact List.mem_map.mpr ⟨p,hp,rfl⟩
 have hlt:=zcr g hs hm
 refine ⟨hlt.2,hlt.1,?_,hm⟩
 have:∃ a b,p.2=afterOf a b:=by
  unfold goesOf at hp
  split at hp
  ·rw [List.mem_singleton.mp hp]; exact ⟨_,_,rfl⟩
  ·obtain ⟨c,_,rfl⟩:=List.mem_map.mp hp; exact ⟨_,_,rfl⟩
 obtain ⟨a,b,e⟩:=this
 unfold akey
 rw [show (((worth p.2).toNat:Nat):Int)=worth p.2 by have:=hlt.1; show _=_; omega]
 congr 1
 rw [e]
 have hs:afterOf a b=((List.range 7).filter fun i=>decide (((i:Nat):Int)∈afterOf a b)).map fun i=>((i:Nat):Int):=by
  refine zbZ ?_ ((zcD a b).imp fun h=>by omega) ?_
  ·rw [List.perm_ext_iff_of_nodup (za1 (zcD a b))]
   ·intro t
    simp only [List.mem_map,List.mem_filter,List.mem_range,decide_eq_true_eq]
    constructor
    ·intro h
     have:=zft t h
     exact ⟨t.toNat,⟨by omega,by rwa [show ((t.toNat:Nat):Int)=t by omega]⟩,by omega⟩
    ·rintro ⟨i,⟨_,h⟩,rfl⟩
     exact h
   ·refine za1 ?_
    rw [List.pairwise_map]
    refine List.Pairwise.sublist List.filter_sublist (List.Pairwise.imp ?_ (List.pairwise_lt_range (n:=7)))
    intro a b h
    omega
  ·rw [List.pairwise_map]
   refine List.Pairwise.sublist List.filter_sublist (List.Pairwise.imp ?_ (List.pairwise_lt_range (n:=7)))
   intro a b h
   omega
 rw [hs]
 exact (ahead_worth _).symm
theorem zgC {a:Addr} {o:Obj} {kvs:List (List Key×V)} {g:TG} {tb:TS} {D:Ends} {σ : St} {H:Hp} (Pv:Nat->St->Hp->Prop) (h0:Pv 0 σ H) (hk:∀ i σ H,Pv i σ H->H a=some (.frz o (.dT kvs)))
  (hs:∀ i k y b σ H,kvs[i]?=some (k,y)->H b=some (.tup (k.map kV))->Pv i σ H->g (.ref b) σ H fun σ2 H2=>tb { D with nx:=Pv (i + 1),ct:=Pv (i + 1),bk:=D.nx } σ2 H2) (hd:∀ σ H,Pv kvs.length σ H->D.nx σ H) :
  ∃ W:Nat->Nat->St->Hp->Prop,(∃ m,W 0 m σ H)/\∀ j m σ H,W j m σ H->((IttD a o kvs).stop j H/\D.nx σ H)\/((IttD a o kvs).go j H/\∃ N:St->Hp->Prop,(∀ σ' H',N σ' H'->∃ m',m' < m/\W (j + 1) m' σ' H') /\
   ∀ x H',(IttD a o kvs).yld j H x H'->g x σ H' fun σ2 H2=>tb { D with nx:=N,ct:=N,bk:=D.nx } σ2 H2):=by
 refine ⟨fun j m σ H=>m=kvs.length - j/\j<=kvs.length/\Pv j σ H,⟨_,rfl,Nat.zero_le _,h0⟩,?_⟩
 rintro j m σ H ⟨rfl,hj,p⟩
 by_cases hlt:j < kvs.length
 ·refine .inr ⟨⟨hk _ _ _ p,hlt⟩,Pv (j + 1),fun σ' H' p'=>⟨kvs.length - (j + 1),by omega,rfl,hlt,p'⟩,?_⟩
  rintro x H' ⟨rfl,k,y,b,e1,rfl,e3⟩
  exact hs j k y b σ _ e1 e3 p
 ·have e:j=kvs.length:=by omega
  subst e
  exact .inl ⟨⟨hk _ _ _ p,Nat.le_refl _⟩,hd σ H p⟩
theorem comp_x2 {K:W.Frag} {J:It} {Ok:Hp->Prop} {L:List V} {tf:TT} {te:TE} {D:Addr} {σ0 capv:St} {H1:Hp} {Q:VK} (hσ : σ0=none :: none :: capv) (G:Gives J Ok L) (hL:L.length<=sizeLine) (hD:H1 D=none) (hOk:∀ H,Same H1 H->Ok H) (X Y:Nat->V) (hXY:∀ (i:Nat) x,L[i]?=some x->∃ q,x = .ref q/\H1 q=some (.tup [X i,Y i])) (p:Nat->Bool) (Rel:Hp->Nat->V->Prop)
  (hm:∀ H H' i v,Same H H'->Rel H i v->Rel H' i v) (hw:∀ H i v l l',v ≠ .ref D->H D=some (.lst l)->Rel H i v->Rel (upd H D (.lst l')) i v)
  (ht:∀ i,i < L.length->∀ H R,Same H1 H->(∀ H',Same H H'->R (p i) H')->tf (some (X i) :: some (Y i) :: capv) H R)
  (he:∀ i,i < L.length->p i=true->∀ H R,Same H1 H->H D≠none->(∀ H' v,Same H H'->v ≠ .ref D->Rel H' i v->R v H')->te (some (X i) :: some (Y i) :: capv) H R)
  (hd:∀ H ys,Same H1 H->H D=some (.lst ys)->Paired (fun i y=>y ≠ .ref D/\Rel H i y) ((List.range L.length).filter p) ys->Q (.ref D) H) :
  CompW J D σ0 H1 (gTup K 2 (gCons (gName 0) (gCons (gName 1) gNil))) tf te Q:=by
 subst hσ
 refine zgg G (fun i xs σ H=>(∃ o1 o2,σ = o1 :: o2 :: capv)/\Same H1 H/\H D=some (.lst xs)/\Paired (fun i y=>y ≠ .ref D/\Rel H i y) ((List.range i).filter p) xs) ⟨⟨none,none,rfl⟩,Same.new hD,upd_same,.nil⟩ (fun i xs σ H _ h=>hOk H h.2.1) ?_ ?_
 ·rintro i x xs σ H hi hx ⟨⟨o1,o2,rfl⟩,s,e,hr⟩
  obtain ⟨qx,rfl,hqx⟩:=hXY i x hx
  refine ⟨qx,[X i,Y i],rfl,SqT.of (s _ _ hqx),rfl,_,_,rfl,_,_,rfl,rfl,?_⟩
  show tf (some (X i) :: some (Y i) :: capv) H _
  refine ht i hi H _ s fun H' s' => ?_
  have hxl:xs.length<=i:=by
   rw [<- Paired.length hr]
   exact Nat.le_trans (List.length_filter_le _ _) (by rw [List.length_range]; omega)
  have efil:(List.range (i + 1)).filter p=(List.range i).filter p ++ if p i=true then [i] else []:=by
   rw [List.range_succ,List.filter_append]
   congr 1
   rw [List.filter_cons,List.filter_nil]
  cases hp:p i with
  | true =>
   rw [if_pos rfl]
   refine he i hi hp H' _ (s.trans s') (by rw [s' _ _ e]; exact nofun) fun H2 v s2 hv rv => ?_
   have e2:=s2 _ _ (s' _ _ e)
   refine CNext.of hi hL e2 hxl ⟨⟨_,_,rfl⟩,((s.trans s').trans s2).put hD,upd_same,?_⟩
   rw [efil,if_pos hp]
   exact Paired.snoc (Paired.mapP hr fun j y z=>⟨z.1,hw _ _ _ _ _ z.1 e2 (hm _ _ _ _ (s'.trans s2) z.2)⟩) ⟨hv,hw _ _ _ _ _ hv e2 rv⟩
  | false =>
   rw [if_neg Bool.false_ne_true]
   refine CSkip.of (xs:=xs) hi ⟨⟨_,_,rfl⟩,s.trans s',s' _ _ e,?_⟩
   rw [efil,if_neg (by rw [hp]; exact Bool.false_ne_true),List.append_nil]
   exact Paired.mapP hr fun j y z=>⟨z.1,hm _ _ _ _ s' z.2⟩
 ·rintro xs σ H ⟨_,s,e,hr⟩
  exact hd H xs s e hr
theorem comp_i2 {K:W.Frag} {J:It} {Ok:Hp->Prop} {L:List V} {tf:TT} {te:TE} {D:Addr} {σ0 capv:St} {H1:Hp} {Q:VK} (hσ : σ0=none :: none :: capv) (G:Gives J Ok L) (hL:L.length<=sizeLine) (hD:H1 D=none) (hOk:∀ H,Same H1 H->Ok H) (X Y:Nat->V) (hXY:∀ (i:Nat) x,L[i]?=some x->∃ q,x = .ref q/\H1 q=some (.tup [X i,Y i])) (p:Nat->Bool) (F:Nat->V) (hF:∀ i,i < L.length->p i=true->F i ≠ .ref D)
  (ht:∀ i,i < L.length->∀ H R,Same H1 H->(∀ H',Same H H'->R (p i) H')->tf (some (X i) :: some (Y i) :: capv) H R)
  (he:∀ i,i < L.length->p i=true->∀ H R,Same H1 H->(∀ H',Same H H'->R (F i) H')->te (some (X i) :: some (Y i) :: capv) H R)
  (hd:∀ H,Same H1 H->H D=some (.lst (((List.range L.length).filter p).map F))->Q (.ref D) H) :
  CompW J D σ0 H1 (gTup K 2 (gCons (gName 0) (gCons (gName 1) gNil))) tf te Q:=by
 refine comp_x2 hσ G hL hD hOk X Y hXY p (fun _ i v=>v=F i) (fun _ _ _ _ _ h=>h) (fun _ _ _ _ _ _ _ h=>h) ht (fun i hi hp H R s _ h=>he i hi hp H R s fun H' s'=>h H' _ s' (hF i hi hp) rfl) fun H ys s e pr=>hd H s ?_
 rw [e]
 have:∀ {l:List Nat} {m:List V},Paired (fun i y=>y ≠ .ref D/\y=F i) l m->m=l.map F:=by
  intro l m q
  induction q with
  | nil=>rfl
  | cons h _ ih=>rw [List.map_cons,<- ih,h.2]
 rw [this pr]
theorem GoesR.nth {H:Hp} {vs:List V} {gs:List (Str×List Int)} (r:GoesR H vs gs) {i:Nat} {x:V} (h:vs[i]?=some x):∃ q t,x = .ref q/\H q=some (.tup [.str (gs.getD i ("",[])).1,.ref t])/\H t=some (.tup ((gs.getD i ("",[])).2.map V.int))/\i < gs.length:=by
 have hi:i < gs.length:=by rw [<- r.length]; exact (List.getElem?_eq_some_iff.mp h).1
 obtain ⟨q,t,e1,e2,e3⟩:=r.get (List.getElem?_eq_getElem hi)
 rw [h] at e1
 cases e1
 refine ⟨q,t,rfl,?_,?_,hi⟩
 ·rw [List.getD_eq_getElem?_getD,List.getElem?_eq_getElem hi]; exact e2
 ·rw [List.getD_eq_getElem?_getD,List.getElem?_eq_getElem hi]; exact e3
noncomputable def tupY (H:Hp) (vs:List V) (i:Nat):V:=match vs[i]? with
 | some (.ref q)=>match H q with
  | some (.tup [_,y])=>y
  | _ => .non
 | _ => .non
theorem zfz {H:Hp} {vs:List V} {i:Nat} {q:Addr} {x y:V} (h1:vs[i]?=some (.ref q)) (h2:H q=some (.tup [x,y])):tupY H vs i=y:=by
 unfold tupY
 rw [h1]
 simp only [h2]
theorem pg_tup' {X:Cx} {pos:Pos} (K:W.Frag) (hK:X.K=K) {es:List Expr} {k:Nat} {t:TGs} {n:Nat} (hc:X.calm=true) (h:PGs X es t)
  (hn:(assignEach es X.env).length=n:=by rfl) (hst:(assignEach es X.env).findIdx? (·.1)=none:=by rfl):PG X (.Tuple es k pos) (gTup K n t):=by
 subst hK
 exact zdh hc h hn hst
noncomputable def ind (b:Bool):Nat:=if b=true then 1 else 0
noncomputable def sumR (n:Nat) (g:Nat->Nat):Nat:=((List.range n).map g).sum
theorem sumR_zero (g:Nat->Nat):sumR 0 g=0:=rfl
theorem zaZ (n:Nat) (g:Nat->Nat):sumR (n + 1) g=sumR n g + g n:=by
 unfold sumR
 rw [List.range_succ,List.map_append,List.sum_append]
 simp
theorem zaL {n:Nat} {g h:Nat->Nat} (e:∀ i,i < n->g i=h i):sumR n g=sumR n h:=by
 unfold sumR
 congr 1
 exact List.map_congr_left fun i hi=>e i (List.mem_range.mp hi)
theorem zdr {n:Nat} {g:Nat->Nat} (e:∀ i,i < n->g i=0):sumR n g=0:=by
 induction n with
 | zero=>rfl
 | succ n ih=>rw [zaZ,ih fun i hi=>e i (by omega),e n (by omega)]
theorem ze0 (n:Nat) (g h:Nat->Nat):sumR n (fun i=>g i + h i)=sumR n g + sumR n h:=by
 induction n with
 | zero=>rfl
 | succ n ih=>rw [zaZ,zaZ,zaZ,ih]; omega
theorem sumR_swap (n m:Nat) (g:Nat->Nat->Nat):sumR n (fun i=>sumR m (g i))=sumR m fun j=>sumR n fun i=>g i j:=by
 induction n with
 | zero=>exact (zdr fun _ _=>rfl).symm
 | succ n ih =>
  rw [zaZ,ih,<- ze0]
  exact zaL fun j _=>by rw [zaZ]
theorem zdq {n j0:Nat} {p:Nat->Bool} {g:Nat->Nat} (hj:j0 < n) (hp:∀ j,j < n->(p j=true ↔ j=j0)):sumR n (fun j=>if p j=true then g j else 0)=g j0:=by
 induction n with
 | zero=>omega
 | succ n ih =>
  rw [zaZ]
  by_cases e:j0=n
  ·subst e
   rw [zdr fun i hi=>if_neg (fun z=>by have:=(hp i (by omega)).mp z; omega),if_pos ((hp j0 (by omega)).mpr rfl),Nat.zero_add]
  ·rw [ih (by omega) fun j hj'=>hp j (by omega),if_neg (fun z=>e ((hp n (by omega)).mp z).symm),Nat.add_zero]
structure Tile (sp:Nat) (al ta:Nat->Nat->Bool):Prop where
 pos:1<=sp
 pa:∀ k d,al (k + sp) d=al k d
 pt:∀ k d,ta (k + sp) d=ta k d
 la:∀ k d,7<=d->al k d=false
 lt:∀ k d,8<=d->ta k d=false
 one:∀ k,ind (al k 0) + ind (ta k 0)=1
 step:∀ k d,ind (al (k + 1) d)=ind (al k (d + 1)) + ind (ta k (d + 1))
namespace Tile
variable {sp:Nat} {al ta:Nat->Nat->Bool}
end Tile
noncomputable def tkOf (C:Combs) (x:Str):List Int:=(cGet C x).getD []
theorem zcN {ah ts:List Int} (ha:∀ t∈ah,0<=t/\t<=6) (ht:∀ t∈ts,0<=t/\t<=7) (d:Nat):(d:Int)∈afterOf ah ts ↔ ((d + 1:Nat):Int)∈ah\/((d + 1:Nat):Int)∈ts:=by
 unfold afterOf
 rw [List.mem_map]
 constructor
 ·rintro ⟨y,hy,e⟩
  obtain ⟨h1,h2⟩:=List.mem_filter.mp hy
  have h3:=(mem_canon.mp h1).1
  rw [show ((d + 1:Nat):Int)=y by omega]
  exact List.mem_append.mp h3
 ·intro h
  refine ⟨((d + 1:Nat):Int),List.mem_filter.mpr ⟨mem_canon.mpr ⟨List.mem_append.mpr h,?_⟩,decide_eq_true (by omega)⟩,by omega⟩
  rcases h with h | h
  ·have:=ha _ h; omega
  ·exact ht _ h
theorem tk_perm {C C':Combs} (p:C.Perm C') (nd:(C.map (·.1)).Nodup) (x:Str):cGet C x=cGet C' x:=by
 have nd':(C'.map (·.1)).Nodup:=(p.map _).nodup_iff.mp nd
 cases e:cGet C x with
 | none =>
  symm
  rw [get_none] at e ⊢
  exact fun z=>e ((p.map _).mem_iff.mpr z)
 | some ts=>exact (zcm nd' (p.mem_iff.mp (zdJ e))).symm
noncomputable def laid (nm:Nat->Str) (sp:Nat):List Nat:=(List.range sp).filter fun j=>decide (nm j≠Str.ofString "")
theorem zeZ (n c:Nat) (g:Nat->Nat):c * sumR n g=sumR n fun i=>c * g i:=by
 induction n with
 | zero=>simp [sumR_zero]
 | succ n ih=>rw [zaZ,zaZ,Nat.mul_add,ih]
theorem KindsL.getG {G:Addr->Prop} {H:Hp}:∀ {vs:List V} {ks:List (Str×List Int)} {i:Nat} {v:V},KindsL G H vs ks->vs[i]?=some v->∃ k q t,ks[i]?=some k/\v = .ref q/\H q=some (.lst [.str k.1,.ref t])/\H t=some (.lst (k.2.map V.int))/\G t
 | [],[],_,_,_,e=>by simp at e
 | _ :: _,k :: _,0,_,⟨⟨q,t,e,h1,h2,g1,g2⟩,_⟩,z=>by
  simp at z
  subst z
  exact ⟨k,q,t,rfl,e,h1,h2,g2⟩
 | _ :: _,_ :: _,i + 1,_,⟨_,b⟩,z=>by
  obtain ⟨k,q,t,h⟩:=KindsL.getG (i:=i) b (by simpa using z)
  exact ⟨k,q,t,by simpa using h⟩
 | [],_ :: _,_,_,x,_=>x.elim
 | _ :: _,[],_,_,x,_=>x.elim
theorem KindsL.live {G:Addr->Prop} {H:Hp}:∀ {vs:List V} {ks:List (Str×List Int)},KindsL G H vs ks->KindsL (fun x=>H x≠none) H vs ks
 | [],[],_=>trivial
 | _ :: _,_ :: _,⟨⟨q,t,e,h1,h2,_,_⟩,r⟩=>⟨⟨q,t,e,h1,h2,(show H q≠none by rw [h1]; exact nofun),(show H t≠none by rw [h2]; exact nofun)⟩,KindsL.live r⟩
 | [],_ :: _,x=>x.elim
 | _ :: _,[],x=>x.elim
theorem Drawn.live {G:Addr->Prop} {H:Hp} {vs:List V} {ks:List (Str×List Int)} (d:Drawn G H vs ks):Drawn (fun x=>H x≠none) H vs ks:=⟨d.rows.live,d.nd,d.good⟩
section
variable {prog:Program} {w:World} {A:Around} {E:Value->Shared->Prop} {s:Shared} {kd:SortKind} {S:Keyed->Prop} {rk:Keyed->Int}
end
section
variable {rk:Keyed->Int} {la lb out:List Keyed} {ia ib:Nat}
end
section
variable {prog:Program} {w:World} {A:Around} {E:Value->Shared->Prop} {s:Shared} {kd:SortKind} {S:Keyed->Prop} {rk:Keyed->Int}
end
section
variable {rk:Keyed->Int} {la lb out:List Keyed} {na nb:Nat}
end
section
variable {prog:Program} {w:World} {A:Around} {E:Value->Shared->Prop} {s:Shared} {kd:SortKind} {S:Keyed->Prop} {rk:Keyed->Int}
end
section
variable {prog:Program} {w:World} {A:Around} {E:Value->Shared->Prop} {s:Shared} {kd:SortKind} {S:Keyed->Prop} {rk:Keyed->Int}
end
section
variable {prog:Program} {w:World} {A:Around} {E:Value->Shared->Prop} {s:Shared} {kd:SortKind} {S:Keyed->Prop} {rk:Keyed->Int}
end
section
variable {rk:Keyed->Int} {arr arr':Array Keyed}
end
section
variable {prog:Program} {w:World} {A:Around} {E:Value->Shared->Prop} {s:Shared} {kd:SortKind} {S:Keyed->Prop} {rk:Keyed->Int}
end
end L2
namespace L2
open PySem PySem.Spec PyProof.Rows PySem.W
section
variable {prog:Program} {w:World} {A:Around} {E:Value->Shared->Prop} {s:Shared}
end
section
variable {X:Cx}
end
end L2
namespace L2
open PySem PySem.Spec PyProof.Rows
theorem putK_keys {κ : Type} [DecidableEq κ] (kvs:List (κ × V)) (k : κ) (v:V):(putK kvs k v).map (·.1)=if k∈kvs.map (·.1) then kvs.map (·.1) else kvs.map (·.1) ++ [k]:=by
 unfold putK
 by_cases h:(kvs.any fun kv=>decide (kv.1=k))=true
 ·rw [if_pos h,if_pos (valV_mem.mp (by rw [<- zbf]; exact h)),List.map_map]
  refine List.map_congr_left fun kv _ => ?_
  show (if kv.1=k then (kv.1,v) else kv).1=kv.1
  split <;> rfl
 ·rw [if_neg h,if_neg (fun z=>h (by rw [zbf]; exact valV_mem.mpr z)),List.map_append]
  rfl
noncomputable def GrL (H:Hp) (kvs:List (List Key×V)) (ks:Combs) (L:List Nat):Prop:=Paired (fun (s:Nat) (kv:List Key×V)=>kv.1=akey s/\∃ q vs,kv.2 = .ref q/\H q=some (.lst vs)/\GoesR H vs (goesOf ks (aheadOf (s:Int)))) L kvs
theorem GrL.mono {H H':Hp} {kvs:List (List Key×V)} {ks:Combs} {L:List Nat} (r:GrL H kvs ks L) (m:∀ kv∈kvs,∀ q vs,kv.2 = .ref q->H q=some (.lst vs)->H' q=some (.lst vs)) (mt:∀ q xs,H q=some (.tup xs)->H' q=some (.tup xs)):GrL H' kvs ks L:=by
 induction r with
 | nil=>exact .nil
 | cons h _ ih =>
  obtain ⟨a,q,vs,b,c,d⟩:=h
  exact .cons ⟨a,q,vs,b,m _ List.mem_cons_self q vs b c,d.mono mt⟩ (ih fun kv hkv=>m kv (List.mem_cons_of_mem _ hkv))
theorem GrL.same {H H':Hp} {kvs:List (List Key×V)} {ks:Combs} {L:List Nat} (r:GrL H kvs ks L) (s:Same H H'):GrL H' kvs ks L:=r.mono (fun _ _ _ _ _ e=>s _ _ e) fun _ _ e=>s _ _ e
theorem GrL.len {H:Hp} {kvs:List (List Key×V)} {ks:Combs} {L:List Nat} (r:GrL H kvs ks L):kvs.length=L.length:=(Paired.length r).symm
theorem GrL.keys {H:Hp} {kvs:List (List Key×V)} {ks:Combs} {L:List Nat} (r:GrL H kvs ks L):kvs.map (·.1)=L.map akey:=by
 induction r with
 | nil=>rfl
 | cons h _ ih=>rw [List.map_cons,List.map_cons,ih,h.1]
theorem akeys_nd {L:List Nat} (nd:L.Nodup) (lt:∀ s∈L,s < 128):(L.map akey).Nodup:=by
 rw [List.nodup_iff_pairwise_ne,List.pairwise_map]
 rw [List.nodup_iff_pairwise_ne] at nd
 exact List.Pairwise.imp_of_mem (fun {a b} ha hb hab e=>hab (zcC (lt a ha) (lt b hb) e)) nd
theorem GrL.val {H:Hp} {kvs:List (List Key×V)} {ks:Combs} {L:List Nat} (r:GrL H kvs ks L) (nd:L.Nodup) (lt:∀ s∈L,s < 128) {s:Nat} (hs:s∈L):∃ q vs,valV kvs (akey s)=some (.ref q)/\H q=some (.lst vs)/\GoesR H vs (goesOf ks (aheadOf (s:Int))):=by
 obtain ⟨i,hi,rfl⟩:=List.getElem_of_mem hs
 obtain ⟨kv,e1,e2,q,vs,e3,e4,e5⟩:=Paired.at r (List.getElem?_eq_getElem hi)
 refine ⟨q,vs,?_,e4,e5⟩
 rw [<- e3]
 exact zev (by rw [r.keys]; exact akeys_nd nd lt) (by rw [e1,<- e2])
theorem GrL.has {H:Hp} {kvs:List (List Key×V)} {ks:Combs} {L:List Nat} (r:GrL H kvs ks L) (lt:∀ s∈L,s < 128) {s:Nat} (hs:s < 128):(valV kvs (akey s)).isSome=decide (s∈L):=by
 rw [Bool.eq_iff_iff,valV_mem,r.keys,decide_eq_true_eq,List.mem_map]
 exact ⟨fun ⟨j,hj,e⟩=>zcC (lt j hj) hs e ▸ hj,fun h=>⟨s,h,rfl⟩⟩
theorem GrL.snoc {H:Hp} {kvs:List (List Key×V)} {ks:Combs} {L:List Nat} {s:Nat} {q:Addr} {vs:List V} (r:GrL H kvs ks L) (h1:H q=some (.lst vs)) (h2:GoesR H vs (goesOf ks (aheadOf (s:Int)))):GrL H (kvs ++ [(akey s,.ref q)]) ks (L ++ [s]):=Paired.snoc r ⟨rfl,q,vs,rfl,h1,h2⟩
noncomputable def ClsS (C:Combs) (L:List Nat):Prop:=(∀ s∈L,s < 128)/\∀ s∈L,∀ p∈stp C s,p.2.toNat∈L
noncomputable def ov (al:Nat->Nat->Bool) (i p:Nat):Nat:=if p < i then 1 else ind (al i (p - i))
section
variable {al ta:Nat->Nat->Bool}
noncomputable def cn (nm:Nat->Str) (i:Nat):Nat:=(laid nm i).length
end
theorem laid_up (nm:Nat->Str) (n:Nat):(laid nm n).Pairwise (· < ·):=List.Pairwise.sublist List.filter_sublist List.pairwise_lt_range
theorem zfY {n j:Nat} (f:Nat->V) (v:V) (h:j < n):((List.range n).map f).set j v=(List.range n).map fun p=>if p=j then v else f p:=by
 refine List.ext_getElem? fun i => ?_
 rw [List.getElem?_set,List.getElem?_map,List.length_map,List.length_range]
 by_cases e:j=i
 ·subst e
  rw [if_pos rfl,if_pos h,List.getElem?_map,List.getElem?_range h,Option.map_some,if_pos rfl]
 ·rw [if_neg e,List.getElem?_map]
  by_cases hi:i < n
  ·rw [List.getElem?_range hi,Option.map_some,Option.map_some,if_neg (fun z=>e z.symm)]
  ·rw [List.getElem?_eq_none (by rw [List.length_range]; omega)]
   rfl
theorem count_teeth {ts:List Int} (nd:ts.Nodup) (h0:∀ t∈ts,0<=t) (i p:Nat):(ts.map fun t=>i + t.toNat).count p=if i<=p then ind (decide (((p - i:Nat):Int)∈ts)) else 0:=by
 have nd2:(ts.map fun t=>i + t.toNat).Nodup:=by
  rw [List.nodup_iff_pairwise_ne,List.pairwise_map]
  rw [List.nodup_iff_pairwise_ne] at nd
  refine List.Pairwise.imp_of_mem (fun {a b} ha hb hab e=>hab ?_) nd
  have:=h0 a ha
  have:=h0 b hb
  omega
 have hm:p∈(ts.map fun t=>i + t.toNat) ↔ i<=p/\((p - i:Nat):Int)∈ts:=by
  rw [List.mem_map]
  constructor
  ·rintro ⟨t,ht,rfl⟩
   have:=h0 t ht
   exact ⟨by omega,by rw [show ((i + t.toNat - i:Nat):Int)=t by omega]; exact ht⟩
  ·rintro ⟨h,ht⟩
   exact ⟨_,ht,by omega⟩
 rw [nd2.count]
 by_cases h:i<=p
 ·rw [if_pos h]
  by_cases h2:((p - i:Nat):Int)∈ts
  ·rw [if_pos (hm.mpr ⟨h,h2⟩),decide_eq_true h2]; rfl
  ·rw [if_neg (fun z=>h2 (hm.mp z).2),decide_eq_false h2]; rfl
 ·rw [if_neg h,if_neg (fun z=>h (hm.mp z).1)]
end L2
namespace L2
open PySem PySem.Spec PyProof.Rows PySem.W
section
variable {prog:Program} {w:World} {A:Around} {E:Value->Shared->Prop} {s:Shared}
end
section
variable {prog:Program} {w:World} {A:Around} {E:Value->Shared->Prop} {s:Shared}
end
section
variable {prog:Program} {w:World} {A:Around} {E:Value->Shared->Prop} {s:Shared} {d:Addr} {o:Obj} {es:Array DictEntry} {ep:Nat}
end
noncomputable def TupsR (H:Hp) (nss:List (List Int)) (ws:List V):Prop:=Paired (fun (ns:List Int) (v:V)=>∃ q,v = .ref q/\H q=some (.tup (ns.map V.int))) nss ws
section
variable {X:Cx}
end
section
variable {X:Cx}
end
end L2
set_option maxHeartbeats 4000000
namespace L2
open PySem PySem.Spec PyProof.Rows PySem.W
section
variable {prog:Program} {w:World} {A:Around} {E:Value->Shared->Prop} {s:Shared}
end
noncomputable def storeAll (kvs:List (Key×Value)):List (Key×Value):=kvs.foldl (fun m p=>stored m p.1 p.2) []
section
variable {prog:Program} {w:World} {A:Around} {E:Value->Shared->Prop} {s:Shared}
end
section
variable {prog:Program} {w:World} {A:Around} {E:Value->Shared->Prop} {s:Shared}
end
section
variable {X:Cx}
end
end L2
namespace L2
open PySem PySem.Spec PyProof.Rows
section
variable {X:Cx} {pins:List (Addr×Obj)} {σ : St} {H:Hp} {s:Shared} {h':Heap}
end
end L2
namespace Att
open PySem PySem.W PySem.Calls PyProof.Rows
end Att
namespace L2
open PySem PySem.Spec PyProof.Rows
section
variable {X:Cx}
end
theorem zaP {s d:Nat} (hs:s < 128):((d:Nat):Int)∈aheadOf (s:Int) ↔ s.testBit d=true:=by
 rw [mem_ahead]
 constructor
 ·rintro ⟨_,_,h⟩
  simpa using h
 ·intro h
  refine ⟨by omega,Decidable.byContradiction fun z => ?_,by simpa using h⟩
  have h7:7<=d:=by omega
  rw [Nat.testBit_lt_two_pow (Nat.lt_of_lt_of_le hs (show 128<=2 ^ d from Nat.pow_le_pow_right (n:=2) (by decide) h7))] at h
  cases h
theorem zbP {a b:Nat} (h:∀ d,a.testBit d=b.testBit d):a=b:=Nat.eq_of_testBit_eq h
noncomputable def StB (C:Combs) (s:Nat) (x:Str) (n:Nat):Prop:=(s.testBit 0=true/\x=Str.ofString "" /\ ∀ d,n.testBit d=s.testBit (d + 1))\/(s.testBit 0=false/\∃ c∈C,x=c.1/\(∀ d:Nat,s.testBit d=true->(d:Int) ∉ c.2)/\∀ d,n.testBit d=(s.testBit (d + 1) || decide (((d + 1:Nat):Int)∈c.2)))
theorem zeg {C:Combs} (g:GC C) {s:Nat} (hs:s < 128) {p:Str×List Int} (hp:p∈goesOf C (aheadOf (s:Int))):∃ m:Nat,m < 128/\worth p.2=(m:Int)/\StB C s p.1 m:=by
 obtain ⟨k1,k2,k3,_⟩:=zbz hs g hp
 refine ⟨(worth p.2).toNat,k1,by omega,?_⟩
 have e:=zec k3
 generalize (worth p.2).toNat=m at k1 e
 unfold goesOf at hp
 by_cases h0:(0:Int)∈aheadOf (s:Int)
 ·rw [if_pos h0] at hp
  have hp:=List.mem_singleton.mp hp
  refine .inl ⟨(zaP hs).mp h0,by rw [hp],fun d => ?_⟩
  rw [Bool.eq_iff_iff,<- zaP k1,<- zaP hs,<- e,hp,zcN zbC (by simp)]
  simp
 ·rw [if_neg h0] at hp
  obtain ⟨c,hc,rfl⟩:=List.mem_map.mp hp
  obtain ⟨hc1,hc2⟩:=List.mem_filter.mp hc
  have hm:meets (aheadOf (s:Int)) c.2=false:=by simpa using hc2
  refine .inr ⟨?_,c,hc1,rfl,fun d hd z=>meets_false.mp hm _ z ((zaP hs).mpr hd),fun d => ?_⟩
  ·cases z:s.testBit 0 with
   | false=>rfl
   | true=>exact absurd ((zaP hs).mpr z) h0
  ·rw [Bool.eq_iff_iff,<- zaP k1,Bool.or_eq_true,decide_eq_true_eq,<- zaP hs,<- e]
   exact zcN zbC (zcy (g c hc1)) d
theorem zb6 {C:Combs} (g:GC C) {s n:Nat} (hs:s < 128) {x:Str}:(x,(n:Int))∈stp C s ↔ n < 128/\StB C s x n:=by
 rw [<- za9 hs g,List.mem_map]
 constructor
 ·rintro ⟨p,hp,e⟩
  obtain ⟨m,m1,m2,m3⟩:=zeg g hs hp
  injection e with e1 e2
  have:m=n:=by omega
  subst this
  exact ⟨m1,e1 ▸ m3⟩
 ·rintro ⟨hn,h⟩
  have key:∀ p∈goesOf C (aheadOf (s:Int)),p.1=x->(∀ m,worth p.2=(m:Nat)->StB C s p.1 m->m=n)->∃ p∈goesOf C (aheadOf (s:Int)),(p.1,worth p.2)=(x,(n:Int)):=fun p hp e1 e2=>by
   obtain ⟨m,_,m2,m3⟩:=zeg g hs hp
   exact ⟨p,hp,by rw [e1,m2,e2 m m2 m3]⟩
  rcases h with ⟨h0,rfl,hb⟩ | ⟨h0,c,hc,rfl,hx,hb⟩
  ·refine key (Str.ofString "",afterOf (aheadOf (s:Int)) []) ?_ rfl fun m _ hm => ?_
   ·unfold goesOf
    rw [if_pos (show (0:Int)∈aheadOf (s:Int) from (zaP hs).mpr h0)]
    exact List.mem_singleton.mpr rfl
   ·rcases hm with ⟨_,_,hb'⟩ | ⟨h0',_⟩
    ·exact zbP fun d=>by rw [hb,hb']
    ·rw [h0] at h0'; cases h0'
  ·have n0:(0:Int) ∉ aheadOf (s:Int):=fun z=>by
    have:=(zaP (d:=0) hs).mp z
    rw [h0] at this; cases this
   have hp:(c.1,afterOf (aheadOf (s:Int)) c.2)∈goesOf C (aheadOf (s:Int)):=by
    unfold goesOf
    rw [if_neg n0]
    refine List.mem_map.mpr ⟨c,List.mem_filter.mpr ⟨hc,?_⟩,rfl⟩
    have:meets (aheadOf (s:Int)) c.2=false:=meets_false.mpr fun t ht z=>by
     have h1:=zbC t z
     obtain ⟨d,rfl⟩:=Int.eq_ofNat_of_zero_le h1.1
     exact hx d ((zaP hs).mp z) ht
    rw [this]; rfl
   obtain ⟨k1,k2,k3,_⟩:=zbz hs g hp
   have e:=zec k3
   refine ⟨_,hp,?_⟩
   have e2:(worth (afterOf (aheadOf (s:Int)) c.2)).toNat=n:=by
    refine zbP fun d => ?_
    rw [Bool.eq_iff_iff,<- zaP k1,hb,Bool.or_eq_true,decide_eq_true_eq,<- zaP hs]
    dsimp only at e ⊢
    rw [<- e]
    exact zcN zbC (zcy (g c hc)) d
   dsimp only at k2 e2 ⊢
   rw [<- e2,show (((worth (afterOf (aheadOf (s:Int)) c.2)).toNat:Nat):Int)=worth (afterOf (aheadOf (s:Int)) c.2) by omega]
noncomputable def hit (C:Combs) (x:Nat×Str) (q:Nat):Bool:=decide (x.1<=q) && decide (((q - x.1:Nat):Int)∈tkOf C x.2)
noncomputable def cov (C:Combs) (l:List (Nat×Str)) (q:Nat):Nat:=(l.map fun x=>ind (hit C x q)).sum
theorem zcd (C:Combs) (l:List (Nat×Str)) (x:Nat×Str) (q:Nat):cov C (l ++ [x]) q=cov C l q + ind (hit C x q):=by
 unfold cov
 rw [List.map_append,List.sum_append]
 simp
noncomputable def chs (C:Combs):Nat->List (List (Nat×Str))
 | 0 => [[]]
 | p + 1=>(chs C p).flatMap fun r=>r :: C.map fun c=>r ++ [(p,c.1)]
noncomputable def OkC (C:Combs) (l:List (Nat×Str)) (p:Nat):Prop:=(∀ q,q < p->cov C l q=1)/\∀ q,q < p + 8->cov C l q<=1
noncomputable def shp (C:Combs) (l:List (Nat×Str)) (p:Nat):Nat:=bitSum (fun d=>decide (cov C l (p + d)=1)) 7
theorem zcW {C:Combs}:∀ {p:Nat} {l:List (Nat×Str)},l∈chs C p->∀ x∈l,x.1 < p/\x.2∈C.map (·.1)
 | 0,l,h,x,hx=>by
  rw [List.mem_singleton.mp (show l ∈ [[]] from h)] at hx
  cases hx
 | p + 1,l,h,x,hx=>by
  obtain ⟨r,hr,h⟩:=List.mem_flatMap.mp h
  rcases List.mem_cons.mp h with rfl | h
  ·have:=zcW hr x hx
   exact ⟨by omega,this.2⟩
  ·obtain ⟨c,hc,rfl⟩:=List.mem_map.mp h
   rcases List.mem_append.mp hx with z | z
   ·have:=zcW hr x z
    exact ⟨by omega,this.2⟩
   ·rw [List.mem_singleton.mp z]
    exact ⟨Nat.lt_succ_self _,List.mem_map.mpr ⟨c,hc,rfl⟩⟩
theorem tk_in {C:Combs} (g:GC C) {x:Str} {t:Int} (h:t∈tkOf C x):0<=t/\t<=7:=by
 unfold tkOf at h
 cases e:cGet C x with
 | none=>rw [e] at h; cases h
 | some ts=>rw [e] at h; exact zcy (g _ (zdJ e)) t h
theorem zeX {α : Type} {l:List α} {f : α -> Nat} (h:∀ x∈l,f x=0):(l.map f).sum=0:=by
 induction l with
 | nil=>rfl
 | cons a l ih =>
  rw [List.map_cons,List.sum_cons,h a List.mem_cons_self,ih fun x hx=>h x (List.mem_cons_of_mem _ hx)]
theorem zco {C:Combs} (g:GC C) {p:Nat} {l:List (Nat×Str)} (h:l∈chs C p) {q:Nat} (hq:p + 7<=q):cov C l q=0:=zeX fun x hx=>by
 have:=(zcW h x hx).1
 unfold hit
 rw [decide_eq_false (show ¬ ((q - x.1:Nat):Int)∈tkOf C x.2 from fun z=>by have:=(tk_in g z).2; omega),Bool.and_false]
 rfl
theorem zfB (C:Combs) (l:List (Nat×Str)) (p:Nat):shp C l p < 128:=zcf _ 7
theorem zaS {C:Combs} (g:GC C) {p:Nat} {l:List (Nat×Str)} (h:l∈chs C p) (d:Nat):(shp C l p).testBit d=decide (cov C l (p + d)=1):=by
 unfold shp
 rw [zbB]
 by_cases hd:d < 7
 ·rw [decide_eq_true hd,Bool.true_and]
 ·rw [decide_eq_false hd,Bool.false_and,zco g h (by omega)]
  rfl
theorem zf3 {C:Combs} (nd:(C.map (·.1)).Nodup) {c:Str×List Int} (hc:c∈C) (p d:Nat):hit C (p,c.1) (p + d)=decide ((d:Int)∈c.2):=by
 unfold hit tkOf
 rw [zcm nd hc]
 simp
theorem hit_below {C:Combs} {p q:Nat} {x:Str} (h:q < p):hit C (p,x) q=false:=by
 unfold hit
 rw [decide_eq_false (show ¬ p<=q by omega),Bool.false_and]
theorem zdA {C:Combs} {p:Nat} {l:List (Nat×Str)} (hl:l∈chs C p) (g:GC C):OkC C l (p + 1) ↔ OkC C l p/\cov C l p=1:=by
 constructor
 ·rintro ⟨h1,h2⟩
  exact ⟨⟨fun q hq=>h1 q (by omega),fun q hq=>h2 q (by omega)⟩,h1 p (by omega)⟩
 ·rintro ⟨⟨h1,h2⟩,h3⟩
  refine ⟨fun q hq => ?_,fun q hq => ?_⟩
  ·by_cases e:q=p
   ·rw [e]; exact h3
   ·exact h1 q (by omega)
  ·by_cases e:q < p + 8
   ·exact h2 q e
   ·rw [zco g hl (by omega)]; omega
theorem zdz {C:Combs} {p:Nat} {l:List (Nat×Str)} (hl:l∈chs C p) (g:GC C) (nd:(C.map (·.1)).Nodup) {c:Str×List Int} (hc:c∈C):OkC C (l ++ [(p,c.1)]) (p + 1) ↔ OkC C l p/\cov C l p=0/\∀ d:Nat,cov C l (p + d)=1->(d:Int) ∉ c.2:=by
 have e1:∀ q,q < p->cov C (l ++ [(p,c.1)]) q=cov C l q:=fun q hq=>by rw [zcd,hit_below hq]; rfl
 have e2:∀ d,cov C (l ++ [(p,c.1)]) (p + d)=cov C l (p + d) + ind (decide ((d:Int)∈c.2)):=fun d=>by rw [zcd,zf3 nd hc]
 have h0:(0:Int)∈c.2:=zeF (g c hc)
 have e0:cov C (l ++ [(p,c.1)]) p=cov C l p + 1:=by
  have:=e2 0
  rw [decide_eq_true (show ((0:Nat):Int)∈c.2 from h0)] at this
  exact this
 constructor
 ·rintro ⟨h1,h2⟩
  have hp:=h1 p (by omega)
  refine ⟨⟨fun q hq=>by rw [<- e1 q hq]; exact h1 q (by omega),fun q hq => ?_⟩,by omega,fun d hd z => ?_⟩
  ·by_cases e:q < p
   ·rw [<- e1 q e]; exact h2 q (by omega)
   ·have:=h2 q (by omega)
    have e3:=e2 (q - p)
    rw [show p + (q - p)=q by omega] at e3
    omega
  ·have e3:=e2 d
   rw [hd,decide_eq_true z] at e3
   have hd8:d<=7:=by have:=(zcy (g c hc) _ z).2; omega
   have:=h2 (p + d) (by omega)
   rw [e3] at this
   exact absurd this (by decide)
 ·rintro ⟨⟨h1,h2⟩,h3,h4⟩
  refine ⟨fun q hq => ?_,fun q hq => ?_⟩
  ·by_cases e:q=p
   ·rw [e,e0,h3]
   ·rw [e1 q (by omega)]; exact h1 q (by omega)
  ·by_cases e:q < p
   ·rw [e1 q e]; exact h2 q (by omega)
   ·have e3:=e2 (q - p)
    rw [show p + (q - p)=q by omega] at e3
    have hle:cov C l q<=1:=by
     by_cases e':q < p + 8
     ·exact h2 q e'
     ·rw [zco g hl (by omega)]; omega
    rw [e3]
    by_cases z:((q - p:Nat):Int)∈c.2
    ·have:cov C l q≠1:=fun y=>h4 (q - p) (by rw [show p + (q - p)=q by omega]; exact y) z
     rw [decide_eq_true z]
     show cov C l q + 1<=1
     omega
    ·rw [decide_eq_false z]
     exact hle
section
variable {P:Program} {w:World} {A:Around} {E:Value->Shared->Prop} {s:Shared}
end
noncomputable abbrev NX:=List (List Key)×Addr×V
section
variable {P:Program} {w:World} {H:Hp} {h:Heap} {a b:Addr} {xs:List NX} {ks:List (List Key)}
end
section
variable {X:Cx} {pins:List (Addr×Obj)} {σ : St} {H:Hp} {s:Shared} {a b:Addr} {xs:List NX} {ks:List (List Key)} {A:Around} {E:Value->Shared->Prop}
end
section
variable {X:Cx} {o i e value:Expr} {pos pos' tpos:Pos} {td ty tv:TE}
end
noncomputable def tDisp1T (tk tv:TE):TE:=fun σ H Q=>∀ p,H p=none->tk σ (upd H p (.dT [])) fun x H1=>tv σ H1 fun y H2=>∃ k b,H2 p=some (.dT [])/\x = .ref b/\H2 b=some (.tup (k.map kV))/\Q (.ref p) (upd H2 p (.dT [(k,y)]))
theorem zd0 {X:Cx} {pos:Pos} {k v:Expr} {tk tv:TE} (hu:X.A.units + 1 < cLine) (hk:PE X k tk) (hv:PE X v tv):PE X (.Dict [some k] [v] pos) (tDisp1T tk tv):=by
 intro pins s σ H Q I q
 have hn:=I.hok.fresh (Nat.le_refl s.heap.objs.size)
 have I1:=I.laid (a:=s.heap.objs.size) (o := .dT []) (h':=s.heap.push { cls := .type "dict",data := .dict #[] }) (t':=s.toks) (fun _ _ q=>Heap.get?_push_of_some _ q) (Nat.le_refl _) (zfq s.heap I.big)
 refine wpAny_Dict_any rfl rfl (by simp) (show 1<=15 by decide) (pairTrees_cons_walk (thnE (hk pins _ σ _ _ I1 (q _ hn)) fun u s1 x H1 J1 rx q1=>thnE (hv pins s1 σ H1 _ J1 q1) fun r s2 y H2 J2 ry ⟨kk,b,hp,ex,hb,q2⟩=>pairTrees_nil_walk ?_))
 subst ex
 cases (show u=Value.ref b from rx)
 unfold PySem.storeAll
 rw [List.forIn_cons]
 obtain ⟨z,hd,xs,rel,dd⟩:=zg4 J2.hok hp
 cases rel
 refine wpAny_bind (wpAny_bind (wpAny_dictSet_heap (knd:=tupleKind (mixKind X.prog X.w)) (hsz:=Nat.zero_le _) (by show X.A.units < cLine; omega) (zcS J2.hok hb) dd fun h' dd' hs=>wpAny_pure ?_))
 dsimp only
 rw [List.forIn_nil]
 refine wpAny_pure ⟨.ref s.heap.objs.size,_,?_,rfl,q2⟩
 obtain ⟨o,es,ep,h1,h2,h3,h4,_,h5⟩:=dd'
 refine zeL J2 (by rw [hp]; exact True.intro) hs ⟨o,h1⟩ ⟨show 1<=sizeLine from Nat.le_trans (by decide) zaR,hd,_,.cons ⟨rfl,?_,ry⟩ .nil,o,es,ep,h1,h2,h3,h4,h5⟩
 rw [zag (zgS hb hp (fun z=>nomatch z))]
 exact hb
section
variable {X:Cx} {o i e value:Expr} {pos pos' tpos:Pos} {td ty tv:TE}
end
noncomputable def st1 (C:Combs) (s t:Nat):Prop:=∃ p∈stp C s,p.2.toNat=t
theorem zcq {α : Type} {f g : α -> Nat} {l:List α} (h:∀ x∈l,f x=g x):(l.map f).sum=(l.map g).sum:=by
 rw [List.map_congr_left h]
noncomputable def Lay (C:Combs) (l:List (Nat×Str)):Prop:=∀ x∈l,x.2∈C.map (·.1)
theorem cov_one {C:Combs} {l:List (Nat×Str)} {x:Nat×Str} (hx:x∈l) {q:Nat} (h:hit C x q=true):1<=cov C l q:=by
 induction l with
 | nil=>cases hx
 | cons y l ih =>
  unfold cov
  rw [List.map_cons,List.sum_cons]
  rcases List.mem_cons.mp hx with rfl | hx
  ·rw [h]; show 1<=1 + _; omega
  ·have:=ih hx
   unfold cov at this
   omega
noncomputable def Cover (C:Combs) (l:List (Nat×Str)) (n:Nat):Prop:=∀ q,cov C l q=if q < n then 1 else 0
theorem Cover.below {C:Combs} (g:GC C) (nd:(C.map (·.1)).Nodup) {l:List (Nat×Str)} {n:Nat} (hl:Lay C l) (h:Cover C l n) {x:Nat×Str} (hx:x∈l) {q:Nat} (hq:hit C x q=true):q < n:=by
 have h1:=cov_one hx hq
 rw [h q] at h1
 by_cases z:q < n
 ·exact z
 ·rw [if_neg z] at h1; omega
theorem shp_zero {C:Combs} (g:GC C) {l:List (Nat×Str)} {n:Nat} (hl:l∈chs C n):(OkC C l n/\shp C l n=0) ↔ Cover C l n:=by
 constructor
 ·rintro ⟨⟨h1,h2⟩,h3⟩ q
  by_cases z:q < n
  ·rw [if_pos z]; exact h1 q z
  ·rw [if_neg z]
   have h4:=zaS g hl (q - n)
   rw [h3,Nat.zero_testBit,show n + (q - n)=q by omega] at h4
   have h5:=of_decide_eq_false h4.symm
   by_cases y:q < n + 8
   ·have:=h2 q y; omega
   ·exact zco g hl (by omega)
 ·intro h
  refine ⟨⟨fun q hq=>by rw [h q,if_pos hq],fun q _=>by rw [h q]; split <;> omega⟩,zbP fun d => ?_⟩
  rw [zaS g hl,h,if_neg (by omega),Nat.zero_testBit]
  rfl
noncomputable def Wy (C:Combs):Nat->Nat->Nat
 | 0,s=>if s=0 then 1 else 0
 | k + 1,s=>((stp C s).map fun p=>Wy C k p.2.toNat).sum
noncomputable def bh (x:Str) (A B:Nat->Nat) (p:Str×Int):Nat:=if p.1=x then A p.2.toNat else B p.2.toNat
noncomputable def Ww (C:Combs) (x:Str):Nat->Nat->Nat
 | 0,_=>0
 | k + 1,s=>((stp C s).map (bh x (Wy C k) (Ww C x k))).sum
theorem sum_pos {α : Type} {l:List α} {f : α -> Nat}:0 < (l.map f).sum ↔ ∃ x∈l,0 < f x:=by
 induction l with
 | nil=>simp
 | cons a l ih =>
  rw [List.map_cons,List.sum_cons]
  constructor
  ·intro h
   by_cases z:0 < f a
   ·exact ⟨a,List.mem_cons_self,z⟩
   ·obtain ⟨x,hx,h'⟩:=ih.mp (by omega)
    exact ⟨x,List.mem_cons_of_mem _ hx,h'⟩
  ·rintro ⟨x,hx,h⟩
   rcases List.mem_cons.mp hx with rfl | hx
   ·omega
   ·have:=ih.mpr ⟨x,hx,h⟩
    omega
structure Sel (C:Combs) (x:Str) (B:Nat->Nat->Nat):Prop where
 zero:∀ s,0 < B 0 s->s=0
 succ:∀ k s,B (k + 1) s=((stp C s).map (bh x (Wy C k) (B k))).sum
noncomputable def ro (C:Combs) (B:Nat->Nat->Nat) (fl:Bool) (k:Nat):Nat->Nat:=if fl=true then Wy C k else B k
noncomputable def sel (C:Combs) (x:Str) (B:Nat->Nat->Nat) (s:Nat) (fl:Bool) (k:Nat):Option (Str×Int):=(stp C s).find? fun p=>decide (0 < bh x (Wy C k) (ro C B fl k) p)
noncomputable def fw (C:Combs) (x:Str) (B:Nat->Nat->Nat) (n:Nat):Nat->Nat×Bool
 | 0=>(0,false)
 | i + 1=>match sel C x B (fw C x B n i).1 (fw C x B n i).2 (n - 1 - i) with
  | some p=>(p.2.toNat,(fw C x B n i).2 || decide (p.1=x))
  | none=>(0,false)
noncomputable def fnm (C:Combs) (x:Str) (B:Nat->Nat->Nat) (n i:Nat):Str:=((sel C x B (fw C x B n i).1 (fw C x B n i).2 (n - 1 - i)).map (·.1)).getD (Str.ofString "")
theorem zgl (C:Combs) (x:Str):Sel C x (Wy C):=by
 refine ⟨fun s h => ?_,fun k s => ?_⟩
 ·have:0 < (if s=0 then 1 else 0):=h
  by_cases z:s=0
  ·exact z
  ·rw [if_neg z] at this; omega
 ·show ((stp C s).map fun p=>Wy C k p.2.toNat).sum=_
  refine zcq fun p _ => ?_
  unfold bh
  split <;> rfl
theorem zgX (C:Combs) (x:Str):Sel C x (Ww C x):=⟨fun s h=>absurd h (Nat.lt_irrefl 0),fun k s=>rfl⟩
theorem zex {C:Combs} {x:Str} {B:Nat->Nat->Nat} (S:Sel C x B) (fl:Bool) (k s:Nat):ro C B fl (k + 1) s=((stp C s).map (bh x (Wy C k) (ro C B fl k))).sum:=by
 cases fl with
 | false=>exact S.succ k s
 | true=>exact (zgl C x).succ k s
theorem ze3 {C:Combs} (g:GC C) {x:Str} {B:Nat->Nat->Nat} (S:Sel C x B) {s k:Nat} (hs:s < 128) {fl:Bool} (h:0 < ro C B fl (k + 1) s):∃ p,sel C x B s fl k=some p/\p∈stp C s/\0<=p.2/\p.2.toNat < 128/\0 < ro C B (fl || decide (p.1=x)) k p.2.toNat:=by
 rw [zex S,sum_pos] at h
 obtain ⟨p,hp,h1⟩:=h
 cases e:sel C x B s fl k with
 | none =>
  unfold sel at e
  rw [List.find?_eq_none] at e
  exact absurd (decide_eq_true h1) (e p hp)
 | some p' =>
  unfold sel at e
  have h2:=List.find?_some e
  have h3:=List.mem_of_find?_eq_some e
  have h4:=zcr g hs h3
  refine ⟨p',rfl,h3,h4.1,h4.2,?_⟩
  have h5:=of_decide_eq_true h2
  unfold bh at h5
  by_cases z:p'.1=x
  ·rw [if_pos z] at h5
   rw [decide_eq_true z,Bool.or_true]
   exact h5
  ·rw [if_neg z] at h5
   rw [decide_eq_false z,Bool.or_false]
   exact h5
theorem zgU {C:Combs} (g:GC C) {x:Str} {B:Nat->Nat->Nat} (S:Sel C x B) {n:Nat} (h:0 < B n 0):∀ i,i<=n->(fw C x B n i).1 < 128/\0 < ro C B (fw C x B n i).2 (n - i) (fw C x B n i).1
 | 0,_=>⟨show 0 < 128 by decide,h⟩
 | i + 1,hi=>by
  obtain ⟨h1,h2⟩:=zgU g S h i (by omega)
  rw [show n - i=n - 1 - i + 1 by omega] at h2
  obtain ⟨p,e,_,_,p3,p4⟩:=ze3 g S h1 h2
  have ef:fw C x B n (i + 1)=(p.2.toNat,(fw C x B n i).2 || decide (p.1=x)):=by
   show (match sel C x B (fw C x B n i).1 (fw C x B n i).2 (n - 1 - i) with
    | some p=>(p.2.toNat,(fw C x B n i).2 || decide (p.1=x))
    | none=>(0,false))=_
   rw [e]
  rw [ef,show n - (i + 1)=n - 1 - i by omega]
  exact ⟨p3,p4⟩
theorem zf6 {C:Combs} (g:GC C) {x:Str} {B:Nat->Nat->Nat} (S:Sel C x B) {n:Nat} (h:0 < B n 0) {i:Nat} (hi:i < n):sel C x B (fw C x B n i).1 (fw C x B n i).2 (n - 1 - i)=some (fnm C x B n i,((fw C x B n (i + 1)).1:Int))/\(fw C x B n (i + 1)).2=((fw C x B n i).2 || decide (fnm C x B n i=x))/\(fnm C x B n i,((fw C x B n (i + 1)).1:Int))∈stp C (fw C x B n i).1:=by
 obtain ⟨h1,h2⟩:=zgU g S h i (by omega)
 rw [show n - i=n - 1 - i + 1 by omega] at h2
 obtain ⟨p,e,p1,p2,p3,p4⟩:=ze3 g S h1 h2
 have ef:fw C x B n (i + 1)=(p.2.toNat,(fw C x B n i).2 || decide (p.1=x)):=by
  show (match sel C x B (fw C x B n i).1 (fw C x B n i).2 (n - 1 - i) with
   | some p=>(p.2.toNat,(fw C x B n i).2 || decide (p.1=x))
   | none=>(0,false))=_
  rw [e]
 have en:fnm C x B n i=p.1:=by unfold fnm; rw [e]; rfl
 have ep:(fnm C x B n i,((fw C x B n (i + 1)).1:Int))=p:=by
  rw [en,ef]
  refine Prod.ext rfl ?_
  show ((p.2.toNat:Nat):Int)=p.2
  omega
 rw [ep,e]
 exact ⟨rfl,by rw [ef,en],p1⟩
theorem step_lay {C:Combs} (g:GC C) (nd:(C.map (·.1)).Nodup) (ne:∀ c∈C,c.1≠Str.ofString "") {p n:Nat} {l:List (Nat×Str)} (hl:l∈chs C p) (ol:OkC C l p) {x:Str} (h:(x,(n:Int))∈stp C (shp C l p)) :
  (if x=Str.ofString "" then l else l ++ [(p,x)])∈chs C (p + 1)/\OkC C (if x=Str.ofString "" then l else l ++ [(p,x)]) (p + 1)/\shp C (if x=Str.ofString "" then l else l ++ [(p,x)]) (p + 1)=n:=by
 obtain ⟨_,hb⟩:=(zb6 g (zfB _ _ _)).mp h
 rcases hb with ⟨h0,rfl,hb⟩ | ⟨h0,c,hc,rfl,hx,hb⟩
 ·rw [if_pos rfl]
  rw [zaS g hl,decide_eq_true_eq] at h0
  have hm:l∈chs C (p + 1):=List.mem_flatMap.mpr ⟨l,hl,List.mem_cons_self⟩
  refine ⟨hm,(zdA hl g).mpr ⟨ol,h0⟩,zbP fun d => ?_⟩
  rw [zaS g hm,hb,zaS g hl,show p + 1 + d=p + (d + 1) by omega]
 ·rw [if_neg (ne c hc)]
  rw [zaS g hl,decide_eq_false_iff_not] at h0
  have hz:cov C l p=0:=by have:=ol.2 p (by omega); have h0:¬ cov C l p=1:=h0; omega
  have hm:l ++ [(p,c.1)]∈chs C (p + 1):=List.mem_flatMap.mpr ⟨l,hl,List.mem_cons_of_mem _ (List.mem_map.mpr ⟨c,hc,rfl⟩)⟩
  refine ⟨hm,(zdz hl g nd hc).mpr ⟨ol,hz,fun d hd=>hx d (by rw [zaS g hl,decide_eq_true hd])⟩,zbP fun d => ?_⟩
  rw [zaS g hm,hb,zaS g hl,show p + 1 + d=p + (d + 1) by omega,zcd,zf3 nd hc]
  have hx':=hx (d + 1)
  rw [zaS g hl,decide_eq_true_eq] at hx'
  have hle:cov C l (p + (d + 1))<=1:=by
   by_cases e':d + 1 < 8
   ·exact ol.2 _ (by omega)
   ·rw [zco g hl (by omega)]; omega
  by_cases a:cov C l (p + (d + 1))=1
  ·rw [decide_eq_false (hx' a),a]; rfl
  ·have a0:cov C l (p + (d + 1))=0:=by omega
   by_cases z:((d + 1:Nat):Int)∈c.2
   ·rw [decide_eq_true z,a0]; rfl
   ·rw [decide_eq_false z,a0]; rfl
noncomputable def laysOf (nm:Nat->Str) (n:Nat):List (Nat×Str):=(laid nm n).map fun j=>(j,nm j)
theorem zby (nm:Nat->Str) (i:Nat):laysOf nm (i + 1)=if nm i=Str.ofString "" then laysOf nm i else laysOf nm i ++ [(i,nm i)]:=by
 unfold laysOf laid
 rw [List.range_succ,List.filter_append]
 by_cases h:nm i=Str.ofString ""
 ·rw [if_pos h,List.filter_cons,if_neg (by simp [h]),List.filter_nil,List.append_nil]
 ·rw [if_neg h,List.filter_cons,if_pos (by simp [h]),List.filter_nil,List.map_append]
  rfl
theorem zfV {C:Combs} (g:GC C) (nd:(C.map (·.1)).Nodup) (ne:∀ c∈C,c.1≠Str.ofString "") {f:Nat->Nat} {nm:Nat->Str} {n:Nat} (h0:f 0=0) (hs:∀ i,i < n->(nm i,(f (i + 1):Int))∈stp C (f i)):∀ i,i<=n->laysOf nm i∈chs C i/\OkC C (laysOf nm i) i/\shp C (laysOf nm i) i=f i
 | 0,_=>⟨List.mem_singleton.mpr rfl,⟨fun q hq=>by omega,fun q _=>Nat.zero_le _⟩,by rw [h0]; rfl⟩
 | i + 1,hi=>by
  obtain ⟨h1,h2,h3⟩:=zfV g nd ne h0 hs i (by omega)
  have:=step_lay g nd ne h1 h2 (x:=nm i) (n:=f (i + 1)) (by rw [h3]; exact hs i (by omega))
  rw [zby]
  exact this
theorem path_cover {C:Combs} (g:GC C) (nd:(C.map (·.1)).Nodup) (ne:∀ c∈C,c.1≠Str.ofString "") {f:Nat->Nat} {nm:Nat->Str} {n:Nat} (h0:f 0=0) (hn:f n=0) (hs:∀ i,i < n->(nm i,(f (i + 1):Int))∈stp C (f i)):laysOf nm n∈chs C n/\Cover C (laysOf nm n) n:=by
 obtain ⟨h1,h2,h3⟩:=zfV g nd ne h0 hs n (Nat.le_refl _)
 exact ⟨h1,(shp_zero g h1).mp ⟨h2,by rw [h3,hn]⟩⟩
noncomputable def LyR (H:Hp) (vs:List V) (l:List (Nat×Str)):Prop:=Paired (fun (x:Nat×Str) (u:V)=>∃ t,u = .ref t/\H t=some (.tup [.int (x.1:Int),.str x.2])) l vs
theorem LyR.mono {H H':Hp} {vs:List V} {l:List (Nat×Str)} (r:LyR H vs l) (mt:∀ q xs,H q=some (.tup xs)->H' q=some (.tup xs)):LyR H' vs l:=Paired.mapP r fun _ _ ⟨t,a,b⟩=>⟨t,a,mt _ _ b⟩
theorem lays_ly {H:Hp} {vs:List V} {nm:Nat->Str} {n:Nat} (r:LaysR H vs nm n):LyR H vs (laysOf nm n):=by
 have all:∀ {L:List Nat} {vs:List V},Paired (fun (j:Nat) (v:V)=>∃ q,v = .ref q/\H q=some (.tup [.int (j:Int),.str (nm j)])) L vs->LyR H vs (L.map fun j=>(j,nm j)):=by
  intro L vs r
  induction r with
  | nil=>exact .nil
  | cons h _ ih=>exact .cons h ih
 exact all r
theorem laysOf_up (nm:Nat->Str) (n:Nat):(laysOf nm n).Pairwise fun x y=>x.1 < y.1:=by
 unfold laysOf
 rw [List.pairwise_map]
 exact laid_up nm n
theorem cov_perm {C C':Combs} (p:C.Perm C') (nd:(C.map (·.1)).Nodup) (l:List (Nat×Str)) (q:Nat):cov C l q=cov C' l q:=by
 unfold cov
 refine zcq fun x _ => ?_
 unfold hit tkOf
 rw [tk_perm p nd]
theorem cover_perm {C C':Combs} (p:C.Perm C') (nd:(C.map (·.1)).Nodup) {l:List (Nat×Str)} {n:Nat} (h:Cover C l n):Cover C' l n:=fun q=>by rw [<- cov_perm p nd]; exact h q
theorem lay_perm {C C':Combs} (p:C.Perm C') {l:List (Nat×Str)} (h:Lay C l):Lay C' l:=fun x hx=>(p.map _).mem_iff.mp (h x hx)
noncomputable def okL (C:Combs) (p:Nat) (l:List (Nat×Str)):Bool:=((List.range p).all fun q=>decide (cov C l q=1)) && (List.range (p + 8)).all fun q=>decide (cov C l q<=1)
theorem okL_iff {C:Combs} {p:Nat} {l:List (Nat×Str)}:okL C p l=true ↔ OkC C l p:=by
 unfold okL OkC
 rw [Bool.and_eq_true,List.all_eq_true,List.all_eq_true]
 constructor
 ·rintro ⟨h1,h2⟩
  exact ⟨fun q hq=>of_decide_eq_true (h1 q (List.mem_range.mpr hq)),fun q hq=>of_decide_eq_true (h2 q (List.mem_range.mpr hq))⟩
 ·rintro ⟨h1,h2⟩
  exact ⟨fun q hq=>decide_eq_true (h1 q (List.mem_range.mp hq)),fun q hq=>decide_eq_true (h2 q (List.mem_range.mp hq))⟩
noncomputable def shpB (C:Combs) (k t:Nat) (l:List (Nat×Str)):Bool:=okL C k l && decide (shp C l k=t)
noncomputable def cnt (C:Combs) (k t:Nat):Nat:=((chs C k).filter (shpB C k t)).length
noncomputable def goN (C:Combs) (s t:Nat):Nat:=((stp C s).filter fun p=>decide (p.2.toNat=t)).length
theorem zdp {α : Type} (P : α -> Bool):∀ l:List α,(l.filter P).length=(l.map fun x=>ind (P x)).sum
 | []=>rfl
 | a :: l=>by
  rw [List.map_cons,List.sum_cons,<- zdp P l,List.filter_cons]
  unfold ind
  split
  ·rw [List.length_cons]; omega
  ·omega
theorem zdF {α β : Type} (f : α -> List β) (P : β -> Bool):∀ l:List α,((l.flatMap f).filter P).length=(l.map fun a=>((f a).filter P).length).sum
 | []=>rfl
 | a :: l=>by rw [List.flatMap_cons,List.filter_append,List.length_append,List.map_cons,List.sum_cons,zdF f P l]
theorem stp_one {C:Combs} {s:Nat} (h:s.testBit 0=false):stp C s=C.flatMap fun c=>stp [c] s:=by
 have h2:¬ ((s:Nat):Int) % 2=1:=by
  intro z
  have:s % 2=1:=by omega
  rw [Nat.testBit_zero] at h
  simp at h
  omega
 unfold stp stepsOf
 rw [if_neg h2]
 induction C with
 | nil=>rfl
 | cons c C ih =>
  rw [List.flatMap_cons,List.filter_cons,<- ih,if_neg h2,List.filter_cons,List.filter_nil]
  by_cases e:decide (Builtin.bitAnd ((s:Nat):Int) (worth c.2)=0)=true
  ·rw [if_pos e,if_pos e]; rfl
  ·rw [if_neg e,if_neg e]; rfl
theorem stp_one_len (c:Str×List Int) (s:Nat):(stp [c] s).length<=1:=by
 unfold stp stepsOf
 split
 ·exact Nat.le_refl _
 ·rw [List.length_map]
  exact List.length_filter_le _ _
open Classical in
theorem goN_one {c:Str×List Int} (g:GC [c]) {s t:Nat} (hs:s < 128):goN [c] s t=ind (decide (t < 128/\∃ x,StB [c] s x t)):=by
 unfold goN
 have h1:=stp_one_len c s
 cases e:stp [c] s with
 | nil =>
  rw [decide_eq_false]
  ·rfl
  ·rintro ⟨h2,x,h3⟩
   have:=(zb6 g hs).mpr ⟨h2,h3⟩
   rw [e] at this
   cases this
 | cons p l =>
  rw [e,List.length_cons] at h1
  have:l = []:=List.eq_nil_of_length_eq_zero (by omega)
  subst this
  have hp:p∈stp [c] s:=by rw [e]; exact List.mem_singleton.mpr rfl
  have hlt:=zcr g hs hp
  rw [List.filter_cons,List.filter_nil]
  by_cases z:p.2.toNat=t
  ·rw [if_pos (decide_eq_true z),decide_eq_true]
   ·rfl
   ·obtain ⟨x,y⟩:=p
    dsimp only at z hlt
    have:y=((t:Nat):Int):=by omega
    subst this
    have:=(zb6 g hs).mp hp
    exact ⟨this.1,x,this.2⟩
  ·rw [if_neg (by rw [decide_eq_true_eq]; exact z),decide_eq_false]
   ·rfl
   ·rintro ⟨h2,x,h3⟩
    have:=(zb6 g hs).mpr ⟨h2,h3⟩
    rw [e] at this
    rw [<- List.mem_singleton.mp this] at z
    exact z (by simp)
open Classical in
theorem goN_odd {C:Combs} (g:GC C) {s t:Nat} (hs:s < 128) (h:s.testBit 0=true):goN C s t=ind (decide (∀ d,t.testBit d=s.testBit (d + 1))):=by
 have h2:((s:Nat):Int) % 2=1:=by
  rw [Nat.testBit_zero] at h
  simp at h
  omega
 unfold goN stp
 rw [zb7 h2,List.filter_cons,List.filter_nil]
 have hm:(Str.ofString "",(((s / 2:Nat)):Int))∈stp C s:=by
  unfold stp
  rw [zb7 h2]
  refine List.mem_singleton.mpr (Prod.ext rfl ?_)
  show (((s / 2:Nat)):Int)=((s:Nat):Int) / 2
  omega
 obtain ⟨k1,k2⟩:=(zb6 g hs).mp hm
 have kb:∀ d,(s / 2).testBit d=s.testBit (d + 1):=by
  rcases k2 with ⟨_,_,hb⟩ | ⟨h0,_⟩
  ·exact hb
  ·rw [h] at h0; cases h0
 have e:(((s:Nat):Int) / 2).toNat=s / 2:=by omega
 dsimp only
 rw [e]
 by_cases z:s / 2=t
 ·rw [if_pos (decide_eq_true z),decide_eq_true (fun d=>by rw [<- z]; exact kb d)]
  rfl
 ·rw [if_neg (by rw [decide_eq_true_eq]; exact z),decide_eq_false (fun hb=>z (zbP fun d=>by rw [hb,kb]))]
  rfl
open Classical in
theorem ext_cnt {C:Combs} (g:GC C) (nd:(C.map (·.1)).Nodup) (ne:∀ c∈C,c.1≠Str.ofString "") {k t:Nat} (ht:t < 128) {l:List (Nat×Str)} (hl:l∈chs C k) :
  ((l :: C.map fun c=>l ++ [(k,c.1)]).filter (shpB C (k + 1) t)).length=if okL C k l=true then goN C (shp C l k) t else 0:=by
 have hm0:l∈chs C (k + 1):=List.mem_flatMap.mpr ⟨l,hl,List.mem_cons_self⟩
 have hmc:∀ c∈C,l ++ [(k,c.1)]∈chs C (k + 1):=fun c hc=>List.mem_flatMap.mpr ⟨l,hl,List.mem_cons_of_mem _ (List.mem_map.mpr ⟨c,hc,rfl⟩)⟩
 by_cases hok:okL C k l=true
 case neg =>
  rw [if_neg hok,List.filter_eq_nil_iff.mpr]
  ·rfl
  ·intro r hr hz
   unfold shpB at hz
   rw [Bool.and_eq_true,okL_iff] at hz
   rcases List.mem_cons.mp hr with rfl | hr
   ·exact hok (okL_iff.mpr ((zdA hl g).mp hz.1).1)
   ·obtain ⟨c,hc,rfl⟩:=List.mem_map.mp hr
    exact hok (okL_iff.mpr ((zdz hl g nd hc).mp hz.1).1)
 rw [if_pos hok]
 have ol:=okL_iff.mp hok
 have hs:=zfB C l k
 have hb0:=zaS g hl 0
 rw [Nat.add_zero] at hb0
 have bn:∀ d,(shp C l (k + 1)).testBit d=(shp C l k).testBit (d + 1):=fun d=>by
  rw [zaS g hm0,zaS g hl,show k + 1 + d=k + (d + 1) by omega]
 by_cases hc1:cov C l k=1
 ·rw [decide_eq_true hc1] at hb0
  rw [goN_odd g hs hb0,List.filter_cons]
  have hnil:(C.map fun c=>l ++ [(k,c.1)]).filter (shpB C (k + 1) t) = []:=by
   rw [List.filter_eq_nil_iff]
   intro r hr hz
   obtain ⟨c,hc,rfl⟩:=List.mem_map.mp hr
   unfold shpB at hz
   rw [Bool.and_eq_true,okL_iff] at hz
   have:=((zdz hl g nd hc).mp hz.1).2.1
   omega
  rw [hnil]
  have e:shpB C (k + 1) t l=decide (∀ d,t.testBit d=(shp C l k).testBit (d + 1)):=by
   unfold shpB
   rw [okL_iff.mpr ((zdA hl g).mpr ⟨ol,hc1⟩),Bool.true_and,decide_eq_decide]
   constructor
   ·intro z d
    rw [<- z,bn]
   ·intro z
    exact zbP fun d=>by rw [bn,z]
  rw [e]
  unfold ind
  split <;> rfl
 ·have hc0:cov C l k=0:=by have:=ol.2 k (by omega); omega
  rw [decide_eq_false hc1] at hb0
  have hnone:shpB C (k + 1) t l=false:=by
   unfold shpB
   rw [Bool.and_eq_false_iff]
   left
   cases e:okL C (k + 1) l with
   | false=>rfl
   | true=>exact absurd ((zdA hl g).mp (okL_iff.mp e)).2 hc1
  rw [List.filter_cons,hnone,if_neg Bool.false_ne_true]
  unfold goN
  rw [stp_one hb0,zdF,zdp,List.map_map]
  refine zcq fun c hc => ?_
  have gc1:GC [c]:=fun c' hc'=>by rw [List.mem_singleton.mp hc']; exact g c hc
  show ind (shpB C (k + 1) t (l ++ [(k,c.1)]))=goN [c] (shp C l k) t
  rw [goN_one gc1 hs]
  congr 1
  unfold shpB
  rw [Bool.eq_iff_iff,Bool.and_eq_true,okL_iff,decide_eq_true_eq,decide_eq_true_eq,zdz hl g nd hc]
  have bs:∀ d,(shp C (l ++ [(k,c.1)]) (k + 1)).testBit d=decide (cov C l (k + (d + 1)) + ind (decide (((d + 1:Nat):Int)∈c.2))=1):=fun d=>by
   rw [zaS g (hmc c hc),zcd,show k + 1 + d=k + (d + 1) by omega,zf3 nd hc]
  have key:(∀ d:Nat,cov C l (k + d)=1->(d:Int) ∉ c.2)->∀ d,(shp C (l ++ [(k,c.1)]) (k + 1)).testBit d=((shp C l k).testBit (d + 1) || decide (((d + 1:Nat):Int)∈c.2)):=fun hx d=>by
   rw [bs,zaS g hl]
   have hle:cov C l (k + (d + 1))<=1:=by
    by_cases e':d + 1 < 8
    ·exact ol.2 _ (by omega)
    ·rw [zco g hl (by omega)]; omega
   by_cases a:cov C l (k + (d + 1))=1
   ·rw [decide_eq_false (hx (d + 1) a),a]; rfl
   ·have a0:cov C l (k + (d + 1))=0:=by omega
    by_cases z:((d + 1:Nat):Int)∈c.2
    ·rw [decide_eq_true z,a0]; rfl
    ·rw [decide_eq_false z,a0]; rfl
  constructor
  ·rintro ⟨⟨_,_,hx⟩,rfl⟩
   refine ⟨ht,c.1,.inr ⟨hb0,c,List.mem_singleton.mpr rfl,rfl,fun d hd=>hx d ?_,key hx⟩⟩
   rw [zaS g hl,decide_eq_true_eq] at hd
   exact hd
  ·rintro ⟨_,x,hb⟩
   rcases hb with ⟨z,_⟩ | ⟨_,c',hc',_,hx,hb⟩
   ·rw [hb0] at z; cases z
   ·rw [List.mem_singleton.mp hc'] at hx hb
    have hx':∀ d:Nat,cov C l (k + d)=1->(d:Int) ∉ c.2:=fun d hd=>hx d (by rw [zaS g hl,decide_eq_true hd])
    exact ⟨⟨ol,hc0,hx'⟩,zbP fun d=>by rw [key hx',hb]⟩
theorem zc4 {α : Type} {l:List α} {f : α -> Nat} {sh : α -> Nat} (h:∀ x∈l,sh x < 128) (G:Nat->Nat):(l.map fun x=>f x * G (sh x)).sum=sumR 128 fun s=>(l.map fun x=>if sh x=s then f x else 0).sum * G s:=by
 induction l with
 | nil=>exact (zdr fun s _=>by simp).symm
 | cons a l ih =>
  rw [List.map_cons,List.sum_cons,ih fun x hx=>h x (List.mem_cons_of_mem _ hx)]
  have ha:=h a List.mem_cons_self
  have e1:f a * G (sh a)=sumR 128 fun s=>(if sh a=s then f a else 0) * G s:=by
   have:=zdq (n:=128) (j0:=sh a) (p:=fun s=>decide (sh a=s)) (g:=fun s=>f a * G s) ha (fun j _=>by rw [decide_eq_true_eq]; exact ⟨fun z=>z.symm,fun z=>z.symm⟩)
   rw [<- this]
   refine zaL fun s _ => ?_
   by_cases z:sh a=s
   ·rw [if_pos (decide_eq_true z),if_pos z]
   ·rw [if_neg (by rw [decide_eq_true_eq]; exact z),if_neg z,Nat.zero_mul]
  rw [e1,<- ze0]
  refine zaL fun s _ => ?_
  rw [List.map_cons,List.sum_cons,Nat.add_mul]
theorem zfr {C:Combs} (g:GC C) (nd:(C.map (·.1)).Nodup) (ne:∀ c∈C,c.1≠Str.ofString "") {k t:Nat} (ht:t < 128):cnt C (k + 1) t=sumR 128 fun s=>cnt C k s * goN C s t:=by
 show (((chs C k).flatMap fun r=>r :: C.map fun c=>r ++ [(k,c.1)]).filter (shpB C (k + 1) t)).length=_
 rw [zdF]
 have e1:((chs C k).map fun l=>((l :: C.map fun c=>l ++ [(k,c.1)]).filter (shpB C (k + 1) t)).length).sum=((chs C k).map fun l=>ind (okL C k l) * goN C (shp C l k) t).sum:=by
  refine zcq fun l hl => ?_
  rw [ext_cnt g nd ne ht hl]
  unfold ind
  split
  ·rw [Nat.one_mul]
  ·rw [Nat.zero_mul]
 rw [e1,zc4 (fun l _=>zfB C l k) (fun s=>goN C s t)]
 refine zaL fun s _ => ?_
 congr 1
 unfold cnt
 rw [zdp]
 refine zcq fun l _ => ?_
 unfold shpB ind
 by_cases z:shp C l k=s
 ·rw [if_pos z,decide_eq_true z,Bool.and_true]
 ·rw [if_neg z,decide_eq_false z,Bool.and_false]; rfl
theorem zce (C:Combs) (t:Nat):cnt C 0 t=if t=0 then 1 else 0:=by
 unfold cnt
 have e:shpB C 0 t []=decide (0=t):=by
  unfold shpB
  rw [okL_iff.mpr ⟨fun q hq=>by omega,fun q _=>Nat.zero_le _⟩,Bool.true_and]
  rfl
 show (([[]]:List (List (Nat×Str))).filter (shpB C 0 t)).length=_
 rw [List.filter_cons,List.filter_nil,e]
 by_cases z:t=0
 ·rw [if_pos z,if_pos (decide_eq_true z.symm)]; rfl
 ·rw [if_neg z,if_neg (by rw [decide_eq_true_eq]; exact fun y=>z y.symm)]; rfl
theorem Wy_sum {C:Combs} (g:GC C) {k s:Nat} (hs:s < 128):Wy C (k + 1) s=sumR 128 fun t=>goN C s t * Wy C k t:=by
 show ((stp C s).map fun p=>Wy C k p.2.toNat).sum=_
 have:=zc4 (l:=stp C s) (f:=fun _=>1) (sh:=fun p=>p.2.toNat) (fun p hp=>(zcr g hs hp).2) (Wy C k)
 rw [show ((stp C s).map fun p=>Wy C k p.2.toNat).sum=((stp C s).map fun p=>1 * Wy C k p.2.toNat).sum from zcq fun p _=>(Nat.one_mul _).symm,this]
 refine zaL fun t _ => ?_
 congr 1
 unfold goN
 rw [zdp]
 refine zcq fun p _ => ?_
 unfold ind
 by_cases z:p.2.toNat=t
 ·rw [if_pos z,if_pos (decide_eq_true z)]
 ·rw [if_neg z,if_neg (by rw [decide_eq_true_eq]; exact z)]
theorem zgJ {C:Combs} (g:GC C) (nd:(C.map (·.1)).Nodup) (ne:∀ c∈C,c.1≠Str.ofString ""):∀ m k,(sumR 128 fun s=>cnt C k s * Wy C m s)=cnt C (k + m) 0
 | 0,k=>by
  have:=zdq (n:=128) (j0:=0) (p:=fun s=>decide (s=0)) (g:=fun s=>cnt C k s) (by decide) (fun j _=>by rw [decide_eq_true_eq])
  rw [Nat.add_zero,<- this]
  refine zaL fun s _ => ?_
  show cnt C k s * (if s=0 then 1 else 0)=_
  by_cases z:s=0
  ·rw [if_pos z,if_pos (decide_eq_true z),Nat.mul_one]
  ·rw [if_neg z,if_neg (by rw [decide_eq_true_eq]; exact z),Nat.mul_zero]
 | m + 1,k=>by
  rw [show k + (m + 1)=k + 1 + m by omega,<- zgJ g nd ne m (k + 1)]
  have e1:(sumR 128 fun s=>cnt C k s * Wy C (m + 1) s)=sumR 128 fun s=>sumR 128 fun t=>cnt C k s * goN C s t * Wy C m t:=by
   refine zaL fun s hs => ?_
   rw [Wy_sum g hs,zeZ]
   refine zaL fun t _ => ?_
   rw [Nat.mul_assoc]
  rw [e1,sumR_swap]
  refine zaL fun t ht => ?_
  rw [zfr g nd ne ht,Nat.mul_comm,zeZ]
  refine zaL fun s _ => ?_
  rw [Nat.mul_comm]
theorem Wy_cnt {C:Combs} (g:GC C) (nd:(C.map (·.1)).Nodup) (ne:∀ c∈C,c.1≠Str.ofString "") (n:Nat):Wy C n 0=cnt C n 0:=by
 have h:=zgJ g nd ne n 0
 rw [Nat.zero_add] at h
 rw [<- h]
 have:=zdq (n:=128) (j0:=0) (p:=fun s=>decide (s=0)) (g:=fun s=>Wy C n s) (by decide) (fun j _=>by rw [decide_eq_true_eq])
 rw [<- this]
 refine zaL fun s _ => ?_
 rw [zce]
 by_cases z:s=0
 ·rw [if_pos z,if_pos (decide_eq_true z),Nat.one_mul]
 ·rw [if_neg z,if_neg (by rw [decide_eq_true_eq]; exact z),Nat.zero_mul]
theorem flat_congr {α β : Type} {l:List α} {f g : α -> List β} (h:∀ x∈l,f x=g x):l.flatMap f=l.flatMap g:=by
 induction l with
 | nil=>rfl
 | cons a l ih=>rw [List.flatMap_cons,List.flatMap_cons,h a List.mem_cons_self,ih fun x hx=>h x (List.mem_cons_of_mem _ hx)]
noncomputable abbrev KB:=List Key×Bool
section
variable {P:Program} {w:World} {A:Around} {E:Value->Shared->Prop} {s:Shared}
end
noncomputable abbrev PX:=KB×Addr×V
section
variable {P:Program} {w:World} {H:Hp} {h:Heap} {a b:Addr} {xs:List PX} {k:KB}
end
section
variable {X:Cx} {pins:List (Addr×Obj)} {σ : St} {H:Hp} {s:Shared} {a b:Addr} {xs:List PX} {k:KB} {A:Around} {E:Value->Shared->Prop}
end
section
variable {X:Cx} {o i e f value k v:Expr} {pos pos' apos cpos:Pos} {td ty tv tx tk:TE}
end
section
variable {X:Cx} {pins:List (Addr×Obj)} {σ : St} {H:Hp} {s:Shared} {a:Addr} {u:HO}
end
section
variable {X:Cx} {tg:Expr}
end
section
variable {C:Combs} {x:Str}
end
section
variable {mvs:List PX} {rs:List (Nat×Bool)} {G:Nat×Bool->Nat}
end
section
variable {X:Cx}
end
end L2
set_option maxHeartbeats 4000000
namespace L2
open PySem PySem.Spec PyProof.Rows PySem.W
open AutoSeq1 (wpAny_loadPart')
open MeetsSeq MeetsSeq2 MeetsSeq3
end L2
set_option maxHeartbeats 4000000
namespace L2
open PySem PySem.Spec PyProof.Rows PySem.W
open AutoSeq1 (wpAny_loadPart')
open MeetsSeq MeetsSeq2 MeetsSeq3
section
variable {prog:Program} {w:World} {A:Around} {E:Value->Shared->Prop} {s:Shared}
end
section
variable {X:Cx}
end
end L2
namespace L2
open PySem PySem.Spec PyProof.Rows
theorem stp_without {C:Combs} {x:Str} (hx:x≠Str.ofString "") (s:Nat):stp (C.filter fun c=>decide (c.1≠x)) s=(stp C s).filter fun p=>decide (p.1≠x):=by
 unfold stp stepsOf
 split
 ·rw [List.filter_cons,if_pos (decide_eq_true (show (Str.ofString "",_).1≠x from fun z=>hx z.symm)),List.filter_nil]
 ·rw [List.filter_map,List.filter_filter,List.filter_filter]
  congr 1
  refine List.filter_congr fun c _ => ?_
  rw [Bool.and_comm]
  rfl
theorem zdm {C:Combs} {x:Str} (hx:x≠Str.ofString ""):∀ k s,Wy C k s=Ww C x k s + Wy (C.filter fun c=>decide (c.1≠x)) k s
 | 0,s=>by show _=0 + _; rw [Nat.zero_add]; rfl
 | k + 1,s=>by
  show ((stp C s).map fun p=>Wy C k p.2.toNat).sum=((stp C s).map (bh x (Wy C k) (Ww C x k))).sum + ((stp (C.filter fun c=>decide (c.1≠x)) s).map fun p=>Wy (C.filter fun c=>decide (c.1≠x)) k p.2.toNat).sum
  rw [stp_without hx]
  induction stp C s with
  | nil=>rfl
  | cons p l ih =>
   rw [List.map_cons,List.sum_cons,List.map_cons,List.sum_cons,List.filter_cons]
   by_cases e:p.1=x
   ·rw [if_neg (by rw [decide_eq_true_eq]; exact fun z=>z e)]
    have:bh x (Wy C k) (Ww C x k) p=Wy C k p.2.toNat:=if_pos e
    omega
   ·rw [if_pos (decide_eq_true e),List.map_cons,List.sum_cons]
    have:bh x (Wy C k) (Ww C x k) p=Ww C x k p.2.toNat:=if_neg e
    have:=zdm (C:=C) hx k p.2.toNat
    omega
theorem zch {α β : Type} (l:List α) (d : α) (f : α -> β):(List.range l.length).map (fun i=>f (l.getD i d))=l.map f:=by
 refine List.ext_getElem (by simp) fun i h1 h2 => ?_
 rw [List.length_map,List.length_range] at h1
 simp [h1]
noncomputable def join {α : Type} (m:Nat) (f g:Nat -> α):Nat -> α := fun i=>if i < m then f i else g (i - m)
theorem paired_map {α β γ : Type} {R : β -> γ -> Prop} {f : α -> β} {l:List α} {vs:List γ} (h:Paired (fun a v=>R (f a) v) l vs):Paired R (l.map f) vs:=by
 induction h with
 | nil=>exact .nil
 | cons h _ ih=>exact .cons h ih
noncomputable def ext (i:Nat) (l:List (Nat×Str)) (x:Str):List (Nat×Str):=if x=Str.ofString "" then l else l ++ [(i,x)]
noncomputable def WR (C:Combs) (n:Nat):Nat->List (Nat×List (Nat×Str))
 | 0 => [(0,[])]
 | i + 1=>(WR C n i).flatMap fun a=>((stp C a.1).filter fun p=>decide (0 < Wy C (n - 1 - i) p.2.toNat)).map fun p=>(p.2.toNat,ext i a.2 p.1)
theorem laysOf_congr {nm nm':Nat->Str} {n:Nat} (h:∀ j,j < n->nm j=nm' j):laysOf nm n=laysOf nm' n:=by
 unfold laysOf laid
 have e:(List.range n).filter (fun j=>decide (nm j≠Str.ofString ""))=(List.range n).filter fun j=>decide (nm' j≠Str.ofString ""):=List.filter_congr fun j hj=>by rw [h j (List.mem_range.mp hj)]
 rw [e]
 exact List.map_congr_left fun j hj=>by rw [h j (List.mem_range.mp (List.mem_filter.mp hj).1)]
theorem zeP {C:Combs} (g:GC C) {n:Nat}:∀ {i:Nat} {a:Nat×List (Nat×Str)},a∈WR C n i->a.1 < 128/\∃ (f:Nat->Nat) (nm:Nat->Str),f 0=0/\f i=a.1/\(∀ j,j < i->(nm j,(f (j + 1):Int))∈stp C (f j))/\a.2=laysOf nm i
 | 0,a,h=>by
  rw [List.mem_singleton.mp h]
  exact ⟨by decide,fun _=>0,fun _=>Str.ofString "",rfl,rfl,fun j hj=>by omega,rfl⟩
 | i + 1,a,h=>by
  obtain ⟨b,hb,h⟩:=List.mem_flatMap.mp h
  obtain ⟨p,hp,rfl⟩:=List.mem_map.mp h
  obtain ⟨hp,_⟩:=List.mem_filter.mp hp
  obtain ⟨b1,f,nm,f0,fi,hs,hl⟩:=zeP g hb
  have hp0:=zcr g b1 hp
  refine ⟨by show p.2.toNat < 128; omega,fun j=>if j<=i then f j else p.2.toNat,fun j=>if j < i then nm j else p.1,f0,by show (if i + 1<=i then f (i + 1) else _)=_; rw [if_neg (by omega)],fun j hj => ?_,?_⟩
  ·show ((if j < i then nm j else p.1),(((if j + 1<=i then f (j + 1) else p.2.toNat):Nat):Int))∈stp C (if j<=i then f j else p.2.toNat)
   by_cases e:j < i
   ·rw [if_pos e,if_pos (show j + 1<=i by omega),if_pos (show j<=i by omega)]; exact hs j e
   ·rw [if_neg e,if_neg (show ¬ j + 1<=i by omega),if_pos (show j<=i by omega),show j=i by omega,fi]
    have:((p.2.toNat:Nat):Int)=p.2:=by omega
    rw [this]; exact hp
  ·rw [zby,if_neg (Nat.lt_irrefl i)]
   show ext i b.2 p.1=_
   rw [hl,laysOf_congr (nm:=fun j=>if j < i then nm j else p.1) (nm':=nm) fun j hj=>if_pos hj]
   rfl
theorem zgO {C:Combs} {n:Nat} {a:Nat×List (Nat×Str)} (h:a∈WR C n n):a.1=0:=by
 cases n with
 | zero=>rw [List.mem_singleton.mp h]
 | succ n =>
  obtain ⟨b,hb,h⟩:=List.mem_flatMap.mp h
  obtain ⟨p,hp,rfl⟩:=List.mem_map.mp h
  have h2:=of_decide_eq_true (List.mem_filter.mp hp).2
  rw [show n + 1 - 1 - n=0 by omega] at h2
  have h2:0 < (if p.2.toNat=0 then 1 else 0):=h2
  show p.2.toNat=0
  by_cases z:p.2.toNat=0
  ·exact z
  ·rw [if_neg z] at h2; cases h2
theorem WR_cover {C:Combs} (g:GC C) (nd:(C.map (·.1)).Nodup) (ne:∀ c∈C,c.1≠Str.ofString "") {n:Nat} {a:Nat×List (Nat×Str)} (h:a∈WR C n n):a.2∈chs C n/\Cover C a.2 n/\a.2.Pairwise fun x y=>x.1 < y.1:=by
 obtain ⟨_,f,nm,f0,fi,hs,hl⟩:=zeP g h
 rw [zgO h] at fi
 rw [hl]
 have:=path_cover g nd ne f0 fi hs
 exact ⟨this.1,this.2,laysOf_up nm n⟩
structure SelB (C:Combs) (x:Str) (B:Nat->Nat->Nat):Prop where
 sel:Sel C x B
 le:∀ k s,B k s<=Wy C k s
 no:x=Str.ofString "" -> ∀ k s,B k s=Wy C k s
noncomputable def has (x:Str) (l:List (Nat×Str)):Bool:=decide (x∈l.map (·.2))
theorem zgP {C:Combs} {B:Nat->Nat->Nat} (h:∀ k s,B k s=Wy C k s) (fl:Bool) (k s:Nat):ro C B fl k s=Wy C k s:=by
 unfold ro
 cases fl with
 | true=>rfl
 | false=>exact h k s
theorem zfy {C:Combs} {x:Str} {B:Nat->Nat->Nat} (fl:Bool) (k:Nat) (p:Str×Int):bh x (Wy C k) (ro C B fl k) p=ro C B (fl || decide (p.1=x)) k p.2.toNat:=by
 unfold bh ro
 by_cases e:p.1=x
 ·rw [if_pos e,decide_eq_true e,Bool.or_true]; rfl
 ·rw [if_neg e,decide_eq_false e,Bool.or_false]
theorem zfL {C:Combs} {x:Str} {B:Nat->Nat->Nat} (S:SelB C x B) (i k s:Nat) (l:List (Nat×Str)) (y:Str):ro C B (has x l || decide (y=x)) k s=ro C B (has x (ext i l y)) k s:=by
 by_cases hx:x=Str.ofString ""
 ·rw [zgP (S.no hx),zgP (S.no hx)]
 ·congr 1
  unfold has ext
  by_cases hy:y=Str.ofString ""
  ·rw [if_pos hy,show decide (y=x)=false from decide_eq_false fun z=>hx (z.symm.trans hy),Bool.or_false]
  ·rw [if_neg hy,List.map_append,Bool.eq_iff_iff,Bool.or_eq_true,decide_eq_true_eq,decide_eq_true_eq,decide_eq_true_eq,List.mem_append,List.map_cons,List.map_nil,List.mem_singleton]
   exact or_congr Iff.rfl eq_comm
theorem zgZ {C:Combs} {x:Str} {B:Nat->Nat->Nat} (S:SelB C x B) (fl:Bool) (k s:Nat):ro C B fl k s<=Wy C k s:=by
 unfold ro
 cases fl with
 | true=>exact Nat.le_refl _
 | false=>exact S.le k s
theorem zdU {α β : Type} (f : β -> Nat) (g : α -> List β):∀ l:List α,((l.flatMap g).map f).sum=(l.map fun a=>((g a).map f).sum).sum
 | []=>rfl
 | a :: l=>by rw [List.flatMap_cons,List.map_append,List.sum_append,List.map_cons,List.sum_cons,zdU f g l]
theorem zeY {α : Type} {p : α -> Bool} {f : α -> Nat}:∀ {l:List α},(∀ a∈l,p a=false->f a=0)->((l.filter p).map f).sum=(l.map f).sum
 | [],_=>rfl
 | a :: l,h=>by
  have ih:=zeY (p:=p) (f:=f) fun b hb=>h b (List.mem_cons_of_mem _ hb)
  rw [List.filter_cons,List.map_cons,List.sum_cons]
  cases e:p a with
  | true=>rw [if_pos rfl,List.map_cons,List.sum_cons,ih]
  | false=>rw [if_neg Bool.false_ne_true,ih,h a List.mem_cons_self e,Nat.zero_add]
noncomputable def wt (C:Combs) (x:Str) (B:Nat->Nat->Nat) (k:Nat) (a:Nat×List (Nat×Str)):Nat:=ro C B (has x a.2) k a.1
theorem zfu {C:Combs} {x:Str} {B:Nat->Nat->Nat} (S:SelB C x B) {n:Nat}:∀ i,i<=n->((WR C n i).map (wt C x B (n - i))).sum=B n 0
 | 0,_=>by
  show wt C x B (n - 0) (0,[]) + 0=_
  rfl
 | i + 1,hi=>by
  rw [<- zfu S i (by omega)]
  show (((WR C n i).flatMap _).map _).sum=_
  rw [zdU]
  refine zcq fun a _ => ?_
  rw [List.map_map,show n - i=n - (i + 1) + 1 by omega]
  show _=ro C B (has x a.2) (n - (i + 1) + 1) a.1
  rw [zex S.sel]
  have e:∀ p:Str×Int,(wt C x B (n - (i + 1)) ∘ fun p:Str×Int=>(p.2.toNat,ext i a.2 p.1)) p=bh x (Wy C (n - (i + 1))) (ro C B (has x a.2) (n - (i + 1))) p:=fun p=>by
   rw [zfy,zfL S i]
   rfl
  rw [List.map_congr_left fun p _=>e p]
  refine zeY fun p _ hp => ?_
  have:=of_decide_eq_false hp
  rw [zfy]
  have h2:=zgZ S (has x a.2 || decide (p.1=x)) (n - (i + 1)) p.2.toNat
  rw [show n - 1 - i=n - (i + 1) by omega] at this
  omega
theorem zel {α β : Type} {p : β -> Bool} {q : α -> Bool} {g : α -> List β}:∀ {l:List α} {a : α} {b : β},(∀ a∈l,q a=false->(g a).find? p=none)->l.find? q=some a->(g a).find? p=some b->(l.flatMap g).find? p=some b
 | x :: l,a,b,h,hf,hb=>by
  rw [List.flatMap_cons,List.find?_append]
  rw [List.find?_cons] at hf
  cases e:q x with
  | true =>
   rw [e] at hf
   cases hf
   rw [hb]; rfl
  | false =>
   rw [e] at hf
   rw [h x List.mem_cons_self e]
   exact zel (fun y hy=>h y (List.mem_cons_of_mem _ hy)) hf hb
theorem zbt {α : Type} {p q : α -> Bool} (h:∀ a,p a=true->q a=true):∀ l:List α,(l.filter q).find? p=l.find? p
 | []=>rfl
 | a :: l=>by
  rw [List.filter_cons,List.find?_cons]
  cases e:q a with
  | true=>rw [if_pos rfl,List.find?_cons,zbt h l]
  | false =>
   have:p a=false:=by
    cases z:p a with
    | false=>rfl
    | true=>rw [h a z] at e; cases e
   rw [if_neg Bool.false_ne_true,this,zbt h l]
theorem zdP {C:Combs} (g:GC C) {x:Str} {B:Nat->Nat->Nat} (S:SelB C x B) {n:Nat} (h:0 < B n 0):∀ i,i<=n->(WR C n i).find? (fun a=>decide (0 < wt C x B (n - i) a))=some ((fw C x B n i).1,laysOf (fnm C x B n) i)/\∀ k s,ro C B (has x (laysOf (fnm C x B n) i)) k s=ro C B (fw C x B n i).2 k s
 | 0,_=>by
  refine ⟨?_,fun k s=>rfl⟩
  show [(0,[])].find? _=_
  rw [List.find?_cons,decide_eq_true (show 0 < wt C x B (n - 0) (0,[]) from h)]
  rfl
 | i + 1,hi=>by
  obtain ⟨h1,h2⟩:=zdP g S h i (by omega)
  obtain ⟨b1,b2,b3⟩:=zf6 g S.sel h (show i < n by omega)
  have key:∀ (a:Nat×List (Nat×Str)) (p:Str×Int),decide (0 < wt C x B (n - (i + 1)) (p.2.toNat,ext i a.2 p.1))=decide (0 < bh x (Wy C (n - 1 - i)) (ro C B (has x a.2) (n - 1 - i)) p):=fun a p=>by
   rw [zfy,zfL S i,show n - 1 - i=n - (i + 1) by omega]
   rfl
  have hle:∀ (fl:Bool) (p:Str×Int),decide (0 < bh x (Wy C (n - 1 - i)) (ro C B fl (n - 1 - i)) p)=true->decide (0 < Wy C (n - 1 - i) p.2.toNat)=true:=fun fl p hp=>by
   have:=of_decide_eq_true hp
   rw [zfy] at this
   exact decide_eq_true (Nat.lt_of_lt_of_le this (zgZ S _ _ _))
  have efl:∀ k s,ro C B (has x (laysOf (fnm C x B n) (i + 1))) k s=ro C B (fw C x B n (i + 1)).2 k s:=fun k s=>by
   rw [zby]
   show ro C B (has x (ext i (laysOf (fnm C x B n) i) (fnm C x B n i))) k s=_
   rw [<- zfL S i,b2]
   by_cases e:fnm C x B n i=x
   ·rw [decide_eq_true e,Bool.or_true,Bool.or_true]
   ·rw [decide_eq_false e,Bool.or_false,Bool.or_false,h2]
  refine ⟨?_,efl⟩
  refine zel (q:=fun a=>decide (0 < wt C x B (n - i) a)) (fun a _ ha => ?_) h1 ?_
  ·rw [List.find?_eq_none]
   intro b hb hb2
   obtain ⟨p,hp,rfl⟩:=List.mem_map.mp hb
   have hp:=(List.mem_filter.mp hp).1
   rw [key] at hb2
   have ha:=of_decide_eq_false ha
   unfold wt at ha
   rw [show n - i=n - 1 - i + 1 by omega,zex S.sel] at ha
   exact ha (sum_pos.mpr ⟨p,hp,of_decide_eq_true hb2⟩)
  ·rw [List.find?_map]
   have e:((fun a=>decide (0 < wt C x B (n - (i + 1)) a)) ∘ fun p:Str×Int=>(p.2.toNat,ext i (laysOf (fnm C x B n) i) p.1))=fun p=>decide (0 < bh x (Wy C (n - 1 - i)) (ro C B (fw C x B n i).2 (n - 1 - i)) p):=by
    funext p
    show decide _=_
    rw [key ((fw C x B n i).1,laysOf (fnm C x B n) i) p,zfy,zfy]
    by_cases z:p.1=x
    ·rw [decide_eq_true z,Bool.or_true,Bool.or_true]
    ·rw [decide_eq_false z,Bool.or_false,Bool.or_false,h2]
   rw [e,zbt (hle (fw C x B n i).2)]
   unfold sel at b1
   rw [b1]
   show some (((fw C x B n (i + 1)).1:Int).toNat,ext i (laysOf (fnm C x B n) i) (fnm C x B n i))=_
   rw [Int.toNat_natCast,zby]
   rfl
theorem zew (C:Combs):SelB C (Str.ofString "") (Wy C):=⟨zgl C _,fun _ _=>Nat.le_refl _,fun _ _ _=>rfl⟩
theorem zfC (C:Combs) {x:Str} (hx:x≠Str.ofString ""):SelB C x (Ww C x):=⟨zgX C x,fun k s=>by rw [zdm hx]; exact Nat.le_add_right _ _,fun z=>absurd z hx⟩
theorem zeQ {C:Combs} {x:Str} {B:Nat->Nat->Nat} {n:Nat} {a:Nat×List (Nat×Str)} (h:a∈WR C n n):wt C x B 0 a=if has x a.2=true then 1 else B 0 0:=by
 unfold wt ro
 rw [zgO h]
 split <;> rfl
theorem zdo {α : Type} {p : α -> Bool} {f : α -> Nat}:∀ {l:List α},(∀ a∈l,f a=if p a=true then 1 else 0)->(l.map f).sum=(l.filter p).length
 | [],_=>rfl
 | a :: l,h=>by
  have ih:=zdo (p:=p) fun b hb=>h b (List.mem_cons_of_mem _ hb)
  rw [List.map_cons,List.sum_cons,h a List.mem_cons_self,ih,List.filter_cons]
  cases p a with
  | true=>rw [if_pos rfl,if_pos rfl,List.length_cons,Nat.add_comm]
  | false=>rw [if_neg Bool.false_ne_true,if_neg Bool.false_ne_true,Nat.zero_add]
theorem WR_all (C:Combs) (n:Nat):(WR C n n).length=Wy C n 0:=by
 rw [<- zfu (zew C) n (Nat.le_refl n),Nat.sub_self,zdo (p:=fun _=>true) fun a ha => ?_,List.filter_eq_self.mpr fun _ _=>rfl]
 rw [zeQ ha,if_pos rfl]
 split
 ·rfl
 ·exact (if_pos rfl:(if (0:Nat)=0 then 1 else 0)=1)
theorem WR_with (C:Combs) {x:Str} (hx:x≠Str.ofString "") (n:Nat):((WR C n n).filter fun a=>has x a.2).length=Ww C x n 0:=by
 rw [<- zfu (zfC C hx) n (Nat.le_refl n),Nat.sub_self,zdo (p:=fun a=>has x a.2) fun a ha => ?_]
 rw [zeQ ha]
 rfl
theorem WR_head_all {C:Combs} (g:GC C) {n:Nat} (h:0 < Wy C n 0):∃ s,(WR C n n).head?=some (s,laysOf (fnm C (Str.ofString "") (Wy C) n) n):=by
 have:=(zdP g (zew C) h n (Nat.le_refl n)).1
 rw [Nat.sub_self,<- List.head?_filter,List.filter_eq_self.mpr fun a ha => ?_] at this
 ·exact ⟨_,this⟩
 ·rw [zeQ ha]
  split
  ·rfl
  ·exact decide_eq_true (show 0 < (if (0:Nat)=0 then 1 else 0) by rw [if_pos rfl]; exact Nat.one_pos)
theorem WR_head_with {C:Combs} (g:GC C) {x:Str} (hx:x≠Str.ofString "") {n:Nat} (h:0 < Ww C x n 0):∃ s,((WR C n n).filter fun a=>has x a.2).head?=some (s,laysOf (fnm C x (Ww C x) n) n):=by
 have:=(zdP g (zfC C hx) h n (Nat.le_refl n)).1
 rw [Nat.sub_self,<- List.head?_filter] at this
 refine ⟨_,Eq.trans (congrArg List.head? (List.filter_congr fun a ha => ?_)) this⟩
 rw [zeQ ha]
 cases has x a.2 with
 | true=>rfl
 | false=>rfl
theorem zgp {α : Type} {f : α -> Nat}:∀ {l:List α},(∀ a∈l,0 < f a)->l.length<=(l.map f).sum
 | [],_=>Nat.le_refl _
 | a :: l,h=>by
  have:=zgp (f:=f) fun b hb=>h b (List.mem_cons_of_mem _ hb)
  have:=h a List.mem_cons_self
  rw [List.map_cons,List.sum_cons,List.length_cons]
  omega
theorem zgN (C:Combs) (n:Nat):∀ i,i<=n->(WR C n i).length<=1 + Wy C n 0
 | 0,_=>by show 1<=_; omega
 | i + 1,hi=>by
  have h1:=zfu (zew C) (n:=n) (i + 1) hi
  have h2:(WR C n (i + 1)).length<=((WR C n (i + 1)).map (wt C (Str.ofString "") (Wy C) (n - (i + 1)))).sum:=zgp fun a ha=>by
   obtain ⟨b,_,ha⟩:=List.mem_flatMap.mp ha
   obtain ⟨p,hp,rfl⟩:=List.mem_map.mp ha
   have:=of_decide_eq_true (List.mem_filter.mp hp).2
   unfold wt
   rw [zgP (fun _ _=>rfl)]
   rwa [show n - 1 - i=n - (i + 1) by omega] at this
  omega
theorem zgk {C:Combs} (g:GC C) {n i:Nat} {a:Nat×List (Nat×Str)} (h:a∈WR C n i):a.2.length<=i:=by
 obtain ⟨_,f,nm,_,_,_,e⟩:=zeP g h
 rw [e]
 unfold laysOf laid
 rw [List.length_map]
 exact Nat.le_trans (List.length_filter_le _ _) (by rw [List.length_range]; exact Nat.le_refl _)
noncomputable def WrR (H:Hp) (p:Addr) (ws:List V) (rs:List (Nat×List (Nat×Str))):Prop:=Paired (fun (a:Nat×List (Nat×Str)) (v:V)=>∃ q t l wl,v = .ref q/\l≠p/\H q=some (.tup [.ref t,.ref l])/\H t=some (.tup ((akey a.1).map kV))/\H l=some (.lst wl)/\LyR H wl a.2) rs ws
theorem WrR.mono {H H':Hp} {p p':Addr} {ws:List V} {rs:List (Nat×List (Nat×Str))} (r:WrR H p ws rs) (mt:∀ q xs,H q=some (.tup xs)->H' q=some (.tup xs)) (ml:∀ q xs,q≠p->H q=some (.lst xs)->H' q=some (.lst xs)/\q≠p'):WrR H' p' ws rs :=
 Paired.mapP r fun _ _ ⟨q,t,l,wl,a,b,c,d,e,f⟩=>⟨q,t,l,wl,a,(ml _ _ b e).2,mt _ _ c,mt _ _ d,(ml _ _ b e).1,f.mono mt⟩
theorem WrR.snoc {H:Hp} {p:Addr} {ws:List V} {rs:List (Nat×List (Nat×Str))} (r:WrR H p ws rs) {q t l:Addr} {wl:List V} {a:Nat×List (Nat×Str)} (h1:l≠p) (h2:H q=some (.tup [.ref t,.ref l])) (h3:H t=some (.tup ((akey a.1).map kV))) (h4:H l=some (.lst wl)) (h5:LyR H wl a.2):WrR H p (ws ++ [.ref q]) (rs ++ [a]):=by
 unfold WrR at r ⊢
 induction r with
 | nil=>exact .cons ⟨q,t,l,wl,rfl,h1,h2,h3,h4,h5⟩ .nil
 | cons h _ ih=>exact .cons h ih
noncomputable def EvR (H:Hp) (ws:List V) (ls:List (List (Nat×Str))):Prop:=Paired (fun (x:List (Nat×Str)) (v:V)=>∃ l wl,v = .ref l/\H l=some (.lst wl)/\LyR H wl x) ls ws
theorem EvR.same {H H':Hp} {ws:List V} {ls:List (List (Nat×Str))} (r:EvR H ws ls) (s:Same H H'):EvR H' ws ls:=Paired.mapP r fun _ _ ⟨l,wl,a,b,c⟩=>⟨l,wl,a,s _ _ b,c.mono fun _ _ e=>s _ _ e⟩
theorem ly_snoc {H:Hp} {wl:List V} {x:List (Nat×Str)} (r:LyR H wl x) {q:Addr} {j:Nat} {s:Str} (h:H q=some (.tup [.int (j:Int),.str s])):LyR H (wl ++ [.ref q]) (x ++ [(j,s)]):=by
 unfold LyR at r ⊢
 induction r with
 | nil=>exact .cons ⟨q,rfl,h⟩ .nil
 | cons h _ ih=>exact .cons h ih
theorem zcK {α : Type} {R : α -> V->Prop} {L:List α} {ws:List V} (d : α) (r:Paired R L ws):∀ {l:List Nat},(∀ j∈l,j < ws.length)->Paired R (l.map fun j=>L.getD j d) (l.map fun j=>ws.getD j .non)
 | [],_ => .nil
 | j :: l,h=>by
  have hj:=h j List.mem_cons_self
  have hl:=Paired.length r
  obtain ⟨y,ey,ry⟩:=Paired.at r (List.getElem?_eq_getElem (show j < L.length by omega))
  refine .cons ?_ (zcK d r fun i hi=>h i (List.mem_cons_of_mem _ hi))
  show R (L.getD j d) (ws.getD j V.non)
  rw [List.getD_eq_getElem?_getD,List.getD_eq_getElem?_getD,ey,List.getElem?_eq_getElem (show j < L.length by omega)]
  exact ry
theorem paired_filter {α : Type} {R : α -> V->Prop} {L:List α} {ws:List V} (d : α) (r:Paired R L ws) (p : α -> Bool):Paired R (L.filter p) (((List.range ws.length).filter fun j=>p (L.getD j d)).map fun j=>ws.getD j .non):=by
 have eT:((List.range ws.length).filter fun j=>p (L.getD j d)).map (fun j=>L.getD j d)=L.filter p:=by
  have:=filter_idx L p d
  rwa [show L.length=ws.length from Paired.length r] at this
 rw [<- eT]
 exact zcK d r fun j hj=>List.mem_range.mp (List.mem_filter.mp hj).1
noncomputable def lyD (x:List (Nat×Str)):PyData := .list (x.map fun y => .tuple [.int (y.1:Int),.str y.2])
theorem zgT {K:W.Frag} {H:Hp} {wl:List V} {x:List (Nat×Str)} (r:LyR H wl x):VDs K H wl (x.map fun y => .tuple [.int (y.1:Int),.str y.2]):=by
 unfold LyR at r
 induction r with
 | nil=>exact .nil
 | cons h _ ih =>
  obtain ⟨q,rfl,e⟩:=h
  exact .cons (.tup (SqT.of e) (.cons (.int _) (.cons (.str _) .nil))) ih
theorem zg3 {K:W.Frag} {H:Hp} {ws:List V} {ls:List (List (Nat×Str))} (r:EvR H ws ls):VDs K H ws (ls.map lyD):=by
 unfold EvR at r
 induction r with
 | nil=>exact .nil
 | cons h _ ih =>
  obtain ⟨l,wl,rfl,e1,e2⟩:=h
  exact .cons (.lst (SqL.of e1) (zgT e2)) ih
theorem zfZ:∀ {x:List (Nat×Str)},(∀ y∈x,PyData.strOk y.2=true)->PyData.canLayAll0 (x.map fun y => .tuple [.int (y.1:Int),.str y.2])=true
 | [],_=>rfl
 | y :: x,h=>by
  have i:=zfZ fun z hz=>h z (List.mem_cons_of_mem _ hz)
  have:=h y List.mem_cons_self
  rw [List.map_cons,PyData.canLayAll0,i]
  simp [PyData.canLay0,PyData.canLayAll0,this]
theorem zdC:∀ x:List (Nat×Str),PyData.depthAll (x.map fun y => .tuple [.int (y.1:Int),.str y.2])<=1
 | []=>Nat.zero_le _
 | y :: x=>by
  have:=zdC x
  rw [List.map_cons,PyData.depthAll]
  have:PyData.depth (.tuple [.int (y.1:Int),.str y.2])=1:=by simp [PyData.depth,PyData.depthAll]
  omega
theorem zgE:∀ {ls:List (List (Nat×Str))},(∀ x∈ls,∀ y∈x,PyData.strOk y.2=true)->PyData.canLayAll0 (ls.map lyD)=true
 | [],_=>rfl
 | x :: ls,h=>by
  have i:=zgE fun z hz=>h z (List.mem_cons_of_mem _ hz)
  have j:=zfZ (h x List.mem_cons_self)
  rw [List.map_cons,PyData.canLayAll0,i]
  unfold lyD
  rw [PyData.canLay0,j]
  rfl
theorem zfp:∀ ls:List (List (Nat×Str)),PyData.depthAll (ls.map lyD)<=2
 | []=>Nat.zero_le _
 | x :: ls=>by
  have h1:=zfp ls
  have h2:=zdC x
  rw [List.map_cons,PyData.depthAll]
  have h3:PyData.depth (lyD x)<=2:=by unfold lyD; rw [PyData.depth]; omega
  omega
theorem zem {ls:List (List (Nat×Str))} (h:∀ x∈ls,∀ y∈x,PyData.strOk y.2=true):SeqAt.shaped (.list (ls.map lyD))=true:=by
 have h1:=zgE h
 have h2:=zfp ls
 have h3:PyData.depth (.list (ls.map lyD))<=64:=by rw [PyData.depth]; omega
 have h4:PyData.canLay0 (.list (ls.map lyD))=true:=by rw [PyData.canLay0,h1]
 unfold SeqAt.shaped
 rw [h4,decide_eq_true h3]
 rfl
theorem zd7 {x:List (Nat×Str)} (h:∀ y∈x,PyData.strOk y.2=true):SeqAt.shaped (lyD x)=true:=by
 have h1:=zfZ h
 have h2:=zdC x
 have h3:PyData.depth (lyD x)<=64:=by unfold lyD; rw [PyData.depth]; omega
 have h4:PyData.canLay0 (lyD x)=true:=by unfold lyD; rw [PyData.canLay0,h1]
 unfold SeqAt.shaped
 rw [h4,decide_eq_true h3]
 rfl
theorem zgD {ls:List (List (Nat×Str))}:PyData.eqv (.list (ls.map lyD)) (.list [])=decide (ls = []):=by
 cases ls with
 | nil=>decide
 | cons a l=>rw [decide_eq_false nofun]; simp [PyData.eqv,PyData.eqvAll]
theorem zgy:∀ x:List (Nat×Str),PyData.eqvAll (x.map fun y => .tuple [.int (y.1:Int),.str y.2]) (x.map fun y => .tuple [.int (y.1:Int),.str y.2])=true
 | []=>rfl
 | y :: x=>by
  have:=zgy x
  rw [List.map_cons,PyData.eqvAll,this]
  simp [PyData.eqv,PyData.eqvAll]
theorem pi_list' {X:Cx} {tg l:Expr} {tl:TE} (K:W.Frag) (h:X.K=K) (hl:PE X l tl):PI X tg l (iList K tl):=by
 subst h
 exact zar hl
end L2
set_option maxHeartbeats 4000000
namespace K38
open PySem L2 PyProof.Rows
noncomputable def top (i:Nat):Stmt:=PySem.Challenge.pw_combstrip_k38_whole_all_fillings.main.body.getD i (.Pass ⟨0,0,0,0⟩)
noncomputable abbrev s__wall:Stmt:=top 0
noncomputable abbrev s_shape_steps:Stmt:=top 26
noncomputable abbrev s_teeth_worth:Stmt:=top 27
noncomputable abbrev s_step_table:Stmt:=top 28
noncomputable abbrev s_first_filling:Stmt:=top 30
noncomputable abbrev s_count_fillings:Stmt:=top 31
noncomputable abbrev s_first_filling_with:Stmt:=top 32
noncomputable abbrev s_count_fillings_with:Stmt:=top 33
noncomputable abbrev s_check_length:Stmt:=top 34
noncomputable abbrev s_ways_to_close:Stmt:=top 35
noncomputable abbrev s_ways_to_lay:Stmt:=top 36
noncomputable abbrev s_ways_from:Stmt:=top 37
noncomputable abbrev s_ways_behind:Stmt:=top 38
noncomputable abbrev s_lay_first:Stmt:=top 39
noncomputable abbrev s_first_open_step:Stmt:=top 40
noncomputable abbrev s_is_name:Stmt:=top 42
noncomputable abbrev s_is_small_letter:Stmt:=top 43
noncomputable abbrev s_are_teeth:Stmt:=top 44
noncomputable abbrev s_Book___init__:Stmt:=inClass (top 46) 0
noncomputable abbrev s_Book_put:Stmt:=inClass (top 46) 1
noncomputable abbrev s_Book_drop:Stmt:=inClass (top 46) 2
noncomputable abbrev s_Book_add_tooth:Stmt:=inClass (top 46) 3
noncomputable abbrev s_Book_take_off:Stmt:=inClass (top 46) 4
noncomputable abbrev s_Book_undo:Stmt:=inClass (top 46) 5
noncomputable abbrev s_Book_deeds:Stmt:=inClass (top 46) 6
noncomputable abbrev s_Book_names:Stmt:=inClass (top 46) 7
noncomputable abbrev s_Book_teeth:Stmt:=inClass (top 46) 8
noncomputable abbrev s_Book_check_comb:Stmt:=inClass (top 46) 9
noncomputable abbrev s_Book_set_comb:Stmt:=inClass (top 46) 10
noncomputable abbrev s_Book_do_deed:Stmt:=inClass (top 46) 11
noncomputable abbrev s_at:Stmt:=top 48
noncomputable abbrev s_mixed:Stmt:=top 49
noncomputable abbrev s_word:Stmt:=top 50
noncomputable abbrev s_spare:Stmt:=top 51
noncomputable abbrev s_menu:Stmt:=top 52
noncomputable abbrev s_combs:Stmt:=top 53
noncomputable abbrev s_book:Stmt:=top 54
noncomputable abbrev s_after:Stmt:=top 55
noncomputable abbrev s_goes:Stmt:=top 56
noncomputable abbrev s_graph:Stmt:=top 57
noncomputable abbrev s_ends:Stmt:=top 58
noncomputable abbrev s_manyways:Stmt:=top 59
noncomputable abbrev s_whole:Stmt:=top 60
noncomputable abbrev s_laying:Stmt:=top 61
noncomputable abbrev s_layings:Stmt:=top 62
noncomputable abbrev s_teeth:Stmt:=top 63
noncomputable abbrev s_covers:Stmt:=top 64
noncomputable abbrev s_kind:Stmt:=top 65
noncomputable abbrev s_refused:Stmt:=top 66
noncomputable abbrev s_told:Stmt:=top 67
noncomputable abbrev s_ask:Stmt:=top 68
noncomputable abbrev s_right:Stmt:=top 69
noncomputable abbrev s_written:Stmt:=top 70
noncomputable abbrev s_law:Stmt:=top 71
section
variable {P:Program} {w:World} {K:W.Frag} {mg:Str->Option Value} {base:Heap}
noncomputable def sp_at (K:W.Frag):Sp:=fun vs H Q _=>∃ (a:Addr) (ns:List Int) (k:Int),vs = [.ref a,.int k]/\SqL K H a (ns.map V.int)/\0<=k/\Q (.int (ns.getD k.toNat 0)) H
theorem zgY:FnScope ["_law_script","_law_k"] ["_law_script","_law_k"] (defScope s_at):=⟨rfl,rfl,rfl,by decide +kernel,rfl,by decide +kernel,by decide +kernel⟩
theorem ok_at (D:DefAt K mg "_law_at" s_at) (T:Bn mg):Callee P w K mg base "_law_at" 1 ["_law_script","_law_k"] (sp_at K):=by
 refine D.callee zgY (fun _ _ _ _ _ _=>ln2 fun _ _=>rfl) (fun vs H Q E h => ?_) (fun f cdv A outer s H vs Q E hr h => ?_)
 ·obtain ⟨a,ns,k,rfl,_⟩:=h
  rfl
 ·obtain ⟨a,ns,k,rfl,hS,h0,q⟩:=h
  have S:=zgY
  refine ⟨_,zad (zaG (zao zg1 (pv 1) (zah zau rfl T.n_len PySem.boot_len (zaa (pv 0) zab)) (zat _))
   (zaf (zaj (zaz zaC (pv 0) (pv 1) (fun _ _=>rfl))))
   (zan))
  (zaf (zaj (zac))),?_⟩
  refine ⟨_,rfl,_,rfl,_,_,rfl,.inl hS,_,_,rfl,rfl,_,rfl,?_⟩
  refine ite2 (fun hc => ?_) (fun hc => ?_)
  ·have hc:=of_decide_eq_true hc
   rw [List.length_map] at hc
   exact ⟨_,rfl,_,rfl,_,_,_,_,rfl,rfl,hS,zgL h0 hc,q⟩
  ·have hc:¬ k < (ns.length:Int):=fun z=>hc (decide_eq_true (by rw [List.length_map]; exact z))
   rw [getD_big hc] at q
   exact q
noncomputable def mixed (c k:Int):Int:=((c + 7919 * k + 1) * 48271 % 2147483647 + 104729 * k + 3) * 69621 % 2147483647
noncomputable def sp_mixed:Sp:=fun vs H Q _=>∃ (c k:Int),vs = [.int c,.int k]/\Q (.int (mixed c k)) H
theorem ze8:FnScope ["_law_cell","_law_k","_law_once"] ["_law_cell","_law_k"] (defScope s_mixed):=⟨rfl,rfl,rfl,by decide +kernel,rfl,by decide +kernel,by decide +kernel⟩
theorem ok_mixed (D:DefAt K mg "_law_mixed" s_mixed) (T:Bn mg):Callee P w K mg base "_law_mixed" 1 ["_law_cell","_law_k"] sp_mixed:=by
 refine D.callee ze8 (fun _ _ _ _ _ _=>ln2 fun _ _=>rfl) (fun vs H Q E h => ?_) (fun f cdv A outer s H vs Q E hr h => ?_)
 ·obtain ⟨c,k,rfl,_⟩:=h
  rfl
 ·obtain ⟨c,k,rfl,q⟩:=h
  have S:=ze8
  refine ⟨_,zad (zam (i:=2) S.nd rfl (Or.inl rfl) (zav zbq (zav zd3 (zav zbr (zav zbr (pv 0) (zav zd3 (zac) (pv 1))) (zac)) (zac)) (zac)))
  (zaf (zaj (zav zbq (zav zd3 (zav zbr (zav zbr (pv 2) (zav zd3 (zac) (pv 1))) (zac)) (zac)) (zac)))),?_⟩
  refine ⟨_,rfl,_,rfl,_,_,rfl,rfl,.inl ⟨by decide,by decide⟩,_,_,rfl,rfl,_,_,rfl,rfl,_,_,rfl,rfl,.inr ⟨by decide,by decide⟩,_,_,rfl,rfl,by show (0:Int) < 2147483647; decide,?_⟩
  exact ⟨_,rfl,_,rfl,_,_,rfl,rfl,.inl ⟨by decide,by decide⟩,_,_,rfl,rfl,_,_,rfl,rfl,_,_,rfl,rfl,.inr ⟨by decide,by decide⟩,_,_,rfl,rfl,by show (0:Int) < 2147483647; decide,q⟩
noncomputable def sp_whole:Sp:=fun vs H Q _=>∃ (i:Int),vs = [.int i]/\Q (.bl true) H
theorem ze4:FnScope ["_law_found"] ["_law_found"] (defScope s_whole):=⟨rfl,rfl,rfl,by decide +kernel,rfl,by decide +kernel,by decide +kernel⟩
theorem ok_whole (D:DefAt K mg "_law_whole" s_whole) (T:Bn mg):Callee P w K mg base "_law_whole" 1 ["_law_found"] sp_whole:=by
 refine D.callee ze4 (fun _ _ _ _ _ _=>ln1 fun _=>rfl) (fun vs H Q E h => ?_) (fun f cdv A outer s H vs Q E hr h => ?_)
 ·obtain ⟨i,rfl,_⟩:=h
  rfl
 ·obtain ⟨i,rfl,q⟩:=h
  have S:=ze4
  refine ⟨_,zaf (zaj (zd1 (zah (zbA "int") rfl T.n_isinstance boot_isinstance (zaa (pv 0) (zaa (zb1 (v := .ty "int") rfl T.n_int boot_int rfl) zab))) (zfh (pe_not (zah (zbA "bool") rfl T.n_isinstance boot_isinstance (zaa (pv 0) (zaa (zb1 (v := .ty "bool") rfl T.n_bool boot_bool rfl) zab))))))),?_⟩
  refine ⟨_,rfl,_,_,true,rfl,.int i,rfl,_,rfl,?_⟩
  refine iteT ?_
  exact ⟨_,rfl,_,_,false,rfl,.int i,rfl,_,rfl,q⟩
noncomputable def sp_word:Sp:=fun vs H Q _=>∃ (c b:Int),vs = [.int c,.int b]/\(b=26\/b=2)/\∀ x:Str,isName x=true->Q (.str x) H
theorem zfD:FnScope ["_law_cell","_law_base","_law_word_here","_law_rest","_law_k"] ["_law_cell","_law_base"] (defScope s_word):=⟨rfl,rfl,rfl,by decide +kernel,rfl,by decide +kernel,by decide +kernel⟩
theorem ok_word (D:DefAt K mg "_law_word" s_word) (T:Bn mg):Callee P w K mg base "_law_word" 1 ["_law_cell","_law_base"] sp_word:=by
 refine D.callee zfD (fun _ _ _ _ _ _=>ln2 fun _ _=>rfl) (fun vs H Q E h => ?_) (fun f cdv A outer s H vs Q E hr h => ?_)
 ·obtain ⟨c,b,rfl,_⟩:=h
  rfl
 ·obtain ⟨c,b,rfl,hb,q⟩:=h
  have S:=zfD
  have b0:0 < b:=by omega
  have b1:b<=26:=by omega
  have m0:=Int.emod_nonneg c (show (6:Int)≠0 by decide)
  have m1:=Int.emod_lt_of_pos c p6
  refine ⟨_,zad (zam (i:=2) S.nd rfl (Or.inl rfl) (zap))
  (zad (zam (i:=3) S.nd rfl (Or.inl rfl) (zav zbN (pv 0) (zac)))
  (zad (zaT PassesOwn.never rfl (za0 rfl T.n_range (zaa (zav zbr (zac) (zav zbq (pv 0) (zac))) zab)) (zai (i:=4) S.nd rfl (Or.inl rfl))
   (zad (zam (i:=2) S.nd rfl (Or.inl rfl) (zav op_add_str (pv 2) (zaz ix_str (zap) (zav zbq (pv 3) (pv 1)) (fun _ _=>rfl))))
   (zaf (zam (i:=3) S.nd rfl (Or.inl rfl) (zav zbN (pv 3) (pv 1))))))
  (zaf (zaj (pv 2))))),?_⟩
  refine ⟨_,rfl,_,_,rfl,rfl,⟨p6,by decide⟩,?_⟩
  refine ⟨_,rfl,_,_,rfl,rfl,p6,_,_,rfl,rfl,_,rfl,?_,?_,?_⟩
  ·show -(2 ^ 62)<=1 + c % 6
   omega
  ·show 1 + c % 6 < 2 ^ 62
   omega
  refine zbl (zaK 0 (1 + c % 6).toNat) (fun i σ H'=>H'=H/\∃ (x:Str) (r:Int) (x4:Option V),σ = [some (.int c),some (.int b),some (.str x),some (.int r),x4]/\x.length=i/\x.cps.toList.all small=true) ⟨rfl,Str.ofString "",_,_,rfl,by decide,by decide⟩ (fun _ _ _ _ _=>trivial) ?_ ?_
  ·rintro i x σ H2 hx ⟨rfl,y,r,x4,rfl,hl,ha⟩
   obtain ⟨hi,rfl⟩:=zbb hx
   obtain ⟨ch,hch,hs⟩:=abc_at (k:=r % b) (Int.emod_nonneg _ (by omega)) (by have:=Int.emod_lt_of_pos r b0; omega)
   refine ⟨_,rfl,_,rfl,_,rfl,_,_,rfl,rfl,b0,_,_,_,rfl,rfl,?_,hch,_,_,rfl,rfl,?_,?_⟩
   ·show abc.length<=sizeLine
    rw [zeO]; decide
   ·rw [zdE]
    exact big (by omega)
   refine ⟨_,rfl,_,rfl,_,_,rfl,rfl,⟨b0,by omega⟩,?_⟩
   refine ⟨rfl,_,_,_,rfl,by rw [len_app,hl,zdE],?_⟩
   rw [app_list,List.all_append,ha]
   show (true && [ch].all small)=true
   simp [hs]
  ·rintro σ H2 ⟨rfl,y,r,x4,rfl,hl,ha⟩
   rw [List.length_map,List.length_range] at hl
   exact ⟨_,rfl,q y (zfX (by omega) (by omega) ha)⟩
noncomputable def sp_spare (K:W.Frag):Sp:=fun vs H Q _=>∃ (x:Str) (u:Addr) (us:List Str),vs = [.str x,.ref u]/\isName x=true/\SqL K H u (us.map V.str)/\us.length<=25/\∀ y H',Same H H'->isName y=true->y ∉ us->Q (.str y) H'
noncomputable def notUsed (us:List Str) (v:V):Bool:=match v with
 | .str y => !decide (y∈us)
 | _=>false
theorem ze6:FnScope ["_law_word_here","_law_used"] ["_law_word_here","_law_used"] (defScope s_spare):=⟨rfl,rfl,rfl,by decide +kernel,rfl,by decide +kernel,by decide +kernel⟩
theorem ok_spare (D:DefAt K mg "_law_spare" s_spare) (T:Bn mg):Callee P w K mg base "_law_spare" 1 ["_law_word_here","_law_used"] (sp_spare K):=by
 refine D.callee ze6 (fun _ _ _ _ _ _=>ln2 fun _ _=>rfl) (fun vs H Q E h => ?_) (fun f cdv A outer s H vs Q E hr h => ?_)
 ·obtain ⟨x,u,us,rfl,_⟩:=h
  rfl
 ·obtain ⟨x,u,us,rfl,hx,hS,hl,q⟩:=h
  have S:=ze6
  refine ⟨_,zad (zaG (zao zbM (pv 0) (pv 1) (by with_unfolding_all rfl))
   (zaf (zaj (pv 0)))
   (zan))
  (zaf (zaj (zaz zaC (zaU (own := ["_law_one"]) (caps := [(1,"_law_used")]) rfl ⟨rfl,rfl,rfl,rfl,⟨⟨rfl,rfl,.inl rfl⟩,trivial⟩⟩ (zgt (zap)) (fun _ _ _ _ _ _=>zai (i:=0) (zaM (by decide +kernel)) rfl (Or.inl rfl)) (fun _ _ _ _ _ _=>zci (zao (op_notIn_seq' K rfl) (pv 0) (pv 1) (by with_unfolding_all rfl))) (fun _ _ _ _ _ _=>pv 0)) (zac) (fun _ _=>rfl)))),?_⟩
  refine ⟨_,rfl,_,rfl,_,_,rfl,.inl hS,rfl,zek us,_,rfl,?_⟩
  rw [if_pos rfl,zeE]
  refine ite2 (fun hc => ?_) (fun hc => ?_)
  ·have h0:x ∉ us:=by simpa using hc
   exact ⟨_,rfl,q x H (Same.refl H) hx h0⟩
  ·refine ⟨_,rfl,fun D hD => ?_⟩
   refine zbY (capv := [some (.ref u)]) (L:=abc.cps.toList.map sgn) (by rfl) (zeh abc) (by rw [List.length_map,zcg,zeO]; decide) hD ?_ (notUsed us) (fun v=>v) ?_ ?_ ?_
   ·exact fun _ _=>trivial
   ·intro v hv H' R s' h
    obtain ⟨c,hc,rfl⟩:=List.mem_map.mp hv
    refine ⟨_,rfl,_,rfl,_,_,rfl,.inl (s'.seq hS),rfl,zek us,_,rfl,?_⟩
    rw [if_pos rfl]
    show R (!inV (V.str ⟨#[c]⟩) (us.map V.str)) H'
    rw [zeE]
    exact h H' (Same.refl _)
   ·intro v hv hp H' R s' h
    exact ⟨_,rfl,h H' (Same.refl _)⟩
   ·intro H' s' e
    obtain ⟨c,hc,hn⟩:=spare_some us hl
    have hm:sgn c∈((abc.cps.toList.map sgn).filter (notUsed us)).map fun v=>v:=by
     rw [List.map_id']
     exact List.mem_filter.mpr ⟨List.mem_map.mpr ⟨c,hc,rfl⟩,by show (!decide ((⟨#[c]⟩:Str)∈us))=true; simp [hn]⟩
    have hall:∀ v∈((abc.cps.toList.map sgn).filter (notUsed us)).map fun v=>v,∃ d,v=sgn d/\small d=true/\(⟨#[d]⟩:Str) ∉ us:=fun v hv=>by
     rw [List.map_id'] at hv
     obtain ⟨h1,h2⟩:=List.mem_filter.mp hv
     obtain ⟨d,hd,rfl⟩:=List.mem_map.mp h1
     have h2:(!decide ((⟨#[d]⟩:Str)∈us))=true:=h2
     exact ⟨d,rfl,abc_small hd,by simpa using h2⟩
    generalize (((abc.cps.toList.map sgn).filter (notUsed us)).map fun v=>v)=l at e hm hall
    cases l with
    | nil=>cases hm
    | cons v l =>
     obtain ⟨d,rfl,hs,hd⟩:=hall v List.mem_cons_self
     exact ⟨_,_,_,_,rfl,rfl,SqL.of e,(show atI (sgn d :: l) ((0:Nat):Int)=some (sgn d) from zas rfl),q _ H' s' (name_one hs) hd⟩
noncomputable def Rows (H:Hp):List V->List (List Int)->Prop
 | [],[]=>True
 | v :: vs,r :: rs=>(∃ p,v = .ref p/\H p=some (.tup (r.map V.int)))/\Rows H vs rs
 | _,_=>False
theorem Rows.same {H H':Hp} (s:Same H H'):∀ {vs:List V} {rs:List (List Int)},Rows H vs rs->Rows H' vs rs
 | [],[],_=>trivial
 | _ :: _,_ :: _,⟨⟨p,e,h⟩,r⟩=>⟨⟨p,e,s _ _ h⟩,Rows.same s r⟩
 | [],_ :: _,h=>h.elim
 | _ :: _,[],h=>h.elim
theorem Rows.snoc {H:Hp} {p:Addr} {r:List Int} (h:H p=some (.tup (r.map V.int))):∀ {vs:List V} {rs:List (List Int)},Rows H vs rs->Rows H (vs ++ [.ref p]) (rs ++ [r])
 | [],[],_=>⟨⟨p,rfl,h⟩,trivial⟩
 | _ :: _,_ :: _,⟨a,b⟩=>⟨a,Rows.snoc h b⟩
 | [],_ :: _,x=>x.elim
 | _ :: _,[],x=>x.elim
theorem Rows.get {H:Hp}:∀ {vs:List V} {rs:List (List Int)} {i:Nat} {r:List Int},Rows H vs rs->rs[i]?=some r->∃ p,vs[i]?=some (.ref p)/\H p=some (.tup (r.map V.int))
 | [],[],_,_,_,e=>by simp at e
 | _ :: _,_ :: _,0,_,⟨⟨p,e,h⟩,_⟩,z=>by
  simp at z
  subst z
  exact ⟨p,by rw [e]; rfl,h⟩
 | _ :: _,_ :: _,i + 1,_,⟨_,b⟩,z=>Rows.get (i:=i) b (by simpa using z)
 | [],_ :: _,_,_,x,_=>x.elim
 | _ :: _,[],_,_,x,_=>x.elim
structure Mr (H0 H:Hp) (vs:List V) (rs:List (List Int)):Prop where
 same:Same H0 H
 rows:Rows H vs rs
theorem Mr.add {H0 H:Hp} {vs:List V} {rs:List (List Int)} (m:Mr H0 H vs rs) (r:List Int) {p:Addr} (n:H p=none):Mr H0 (upd H p (.tup (r.map V.int))) (vs ++ [.ref p]) (rs ++ [r]) :=
 ⟨m.same.put (m.same.free n),Rows.snoc upd_same (m.rows.same (Same.new n))⟩
theorem Mr.lstE {H0 H:Hp} {vs:List V} {rs:List (List Int)} (m:Mr H0 H vs rs) {o:HO} {p:Addr} (n:H p=none):Mr H0 (upd H p o) vs rs/\upd H p o p=some o:=⟨⟨m.same.put (m.same.free n),m.rows.same (Same.new n)⟩,upd_same⟩
theorem Mr.lst {H0 H:Hp} {vs:List V} {rs:List (List Int)} (m:Mr H0 H vs rs) {o:HO} {p:Addr} (n:H p=none):Mr H0 (upd H p o) vs rs:=⟨m.same.put (m.same.free n),m.rows.same (Same.new n)⟩
noncomputable def menuRows:List (List Int) := [[45],[131,133],[193,65],[71,161,99],[77,131,133],[13,49],[153,111,131],[197,131,173,53],[83,125,137,173,243],[185,193,215,87,243],[5],[175,209,67,129,21,229,49,83],[203,243,129,167,153,223,207,243],[197,147,131],[197,131,177],[31,255],[3,3],[119,225,131,109]]
noncomputable def MenuRow (xs:List Int):Prop:=(1<=xs.length/\xs.length<=8)/\∀ x∈xs,x % 2=1/\0<=x/\x < 256
theorem menu_ok {i:Nat} {r:List Int} (h:menuRows[i]?=some r):MenuRow r:=by
 have all:∀ r∈menuRows,(1<=r.length/\r.length<=8)/\∀ x∈r,x % 2=1/\0<=x/\x < 256:=by decide
 exact all r (List.mem_of_getElem? h)
noncomputable def sp_menu:Sp:=fun vs H Q _=>∃ (k:Int),vs = [.int k]/\∀ p xs H',Same H H'->H' p=some (.tup (xs.map V.int))->MenuRow xs->Q (.ref p) H'
theorem zfF:FnScope ["_law_k","_law_rows"] ["_law_k"] (defScope s_menu):=⟨rfl,rfl,rfl,by decide +kernel,rfl,by decide +kernel,by decide +kernel⟩
theorem ok_menu (D:DefAt K mg "_law_menu" s_menu) (T:Bn mg):Callee P w K mg base "_law_menu" 1 ["_law_k"] sp_menu:=by
 refine D.calleeQ zfF (fun _ _ _ _ _ _=>ln1 fun _=>rfl) (fun vs H Q E h => ?_) (fun f cdv A outer s H vs Q E hr h => ?_)
 ·obtain ⟨k,rfl,_⟩:=h
  rfl
 ·obtain ⟨k,rfl,q⟩:=h
  have S:=zfF
  refine ⟨_,zay (za4 (i:=1) S.nd rfl (Or.inl rfl) (zbd (zae (za5 (zae (qe (zac)) (zaw))) (zae (za5 (zae (qe (zac)) (zae (qe (zac)) (zaw)))) (zae (za5 (zae (qe (zac)) (zae (qe (zac)) (zaw)))) (zae (za5 (zae (qe (zac)) (zae (qe (zac)) (zae (qe (zac)) (zaw))))) (zae (za5 (zae (qe (zac)) (zae (qe (zac)) (zae (qe (zac)) (zaw))))) (zae (za5 (zae (qe (zac)) (zae (qe (zac)) (zaw)))) (zae (za5 (zae (qe (zac)) (zae (qe (zac)) (zae (qe (zac)) (zaw))))) (zaw))))))))))
  (zay (za4 (i:=1) S.nd rfl (Or.inl rfl) (zc0 zbH (qe (pv 1)) (zbd (zae (za5 (zae (qe (zac)) (zae (qe (zac)) (zae (qe (zac)) (zae (qe (zac)) (zaw)))))) (zae (za5 (zae (qe (zac)) (zae (qe (zac)) (zae (qe (zac)) (zae (qe (zac)) (zae (qe (zac)) (zaw))))))) (zae (za5 (zae (qe (zac)) (zae (qe (zac)) (zae (qe (zac)) (zae (qe (zac)) (zae (qe (zac)) (zaw))))))) (zae (za5 (zae (qe (zac)) (zaw))) (zaw))))))))
  (zay (za4 (i:=1) S.nd rfl (Or.inl rfl) (zc0 zbH (qe (pv 1)) (zbd (zae (za5 (zae (qe (zac)) (zae (qe (zac)) (zae (qe (zac)) (zae (qe (zac)) (zae (qe (zac)) (zae (qe (zac)) (zae (qe (zac)) (zae (qe (zac)) (zaw)))))))))) (zae (za5 (zae (qe (zac)) (zae (qe (zac)) (zae (qe (zac)) (zae (qe (zac)) (zae (qe (zac)) (zae (qe (zac)) (zae (qe (zac)) (zae (qe (zac)) (zaw)))))))))) (zaw))))))
  (zay (za4 (i:=1) S.nd rfl (Or.inl rfl) (zc0 zbH (qe (pv 1)) (zbd (zae (za5 (zae (qe (zac)) (zae (qe (zac)) (zae (qe (zac)) (zaw))))) (zae (za5 (zae (qe (zac)) (zae (qe (zac)) (zae (qe (zac)) (zaw))))) (zae (za5 (zae (qe (zac)) (zae (qe (zac)) (zaw)))) (zae (za5 (zae (qe (zac)) (zae (qe (zac)) (zaw)))) (zae (za5 (zae (qe (zac)) (zae (qe (zac)) (zae (qe (zac)) (zae (qe (zac)) (zaw)))))) (zaw)))))))))
  (zey (zfM (qe (zaz zaC (pv 1) (zav zbq (pv 0) (zah zau rfl T.n_len PySem.boot_len (zaa (pv 1) zab))) (fun _ _=>rfl)))))))),?_⟩
  have M:Mr H H [] []:=⟨Same.refl H,trivial⟩
  refine ⟨bigr rfl,fun a1 na => ?_⟩
  replace M:=M.add [45] na
  clear na
  refine ⟨bigr rfl,fun a2 na => ?_⟩
  replace M:=M.add [131,133] na
  clear na
  refine ⟨bigr rfl,fun a3 na => ?_⟩
  replace M:=M.add [193,65] na
  clear na
  refine ⟨bigr rfl,fun a4 na => ?_⟩
  replace M:=M.add [71,161,99] na
  clear na
  refine ⟨bigr rfl,fun a5 na => ?_⟩
  replace M:=M.add [77,131,133] na
  clear na
  refine ⟨bigr rfl,fun a6 na => ?_⟩
  replace M:=M.add [13,49] na
  clear na
  refine ⟨bigr rfl,fun a7 na => ?_⟩
  replace M:=M.add [153,111,131] na
  clear na
  refine ⟨bigr rfl,fun b0 nb => ?_⟩
  obtain ⟨M,e⟩:=M.lstE (o := .lst [V.ref a1,V.ref a2,V.ref a3,V.ref a4,V.ref a5,V.ref a6,V.ref a7]) nb
  clear nb
  refine ⟨_,rfl,?_⟩
  refine ⟨bigr rfl,fun a8 na => ?_⟩
  replace M:=M.add [197,131,173,53] na
  replace e:=za2 (o := .tup (([197,131,173,53]:List Int).map V.int)) e na
  clear na
  refine ⟨bigr rfl,fun a9 na => ?_⟩
  replace M:=M.add [83,125,137,173,243] na
  replace e:=za2 (o := .tup (([83,125,137,173,243]:List Int).map V.int)) e na
  clear na
  refine ⟨bigr rfl,fun a10 na => ?_⟩
  replace M:=M.add [185,193,215,87,243] na
  replace e:=za2 (o := .tup (([185,193,215,87,243]:List Int).map V.int)) e na
  clear na
  refine ⟨bigr rfl,fun a11 na => ?_⟩
  replace M:=M.add [5] na
  replace e:=za2 (o := .tup (([5]:List Int).map V.int)) e na
  clear na
  refine ⟨bigr rfl,fun b1 nb => ?_⟩
  obtain ⟨M,e2⟩:=M.lstE (o := .lst [V.ref a8,V.ref a9,V.ref a10,V.ref a11]) nb
  replace e:=za2 (o := .lst [V.ref a8,V.ref a9,V.ref a10,V.ref a11]) e nb
  clear nb
  refine ⟨_,_,_,_,rfl,rfl,e,e2,bigr rfl,fun c1 nc => ?_⟩
  obtain ⟨M,e⟩:=M.lstE (o := .lst [V.ref a1,V.ref a2,V.ref a3,V.ref a4,V.ref a5,V.ref a6,V.ref a7,V.ref a8,V.ref a9,V.ref a10,V.ref a11]) nc
  clear nc e2
  refine ⟨_,rfl,?_⟩
  refine ⟨bigr rfl,fun a12 na => ?_⟩
  replace M:=M.add [175,209,67,129,21,229,49,83] na
  replace e:=za2 (o := .tup (([175,209,67,129,21,229,49,83]:List Int).map V.int)) e na
  clear na
  refine ⟨bigr rfl,fun a13 na => ?_⟩
  replace M:=M.add [203,243,129,167,153,223,207,243] na
  replace e:=za2 (o := .tup (([203,243,129,167,153,223,207,243]:List Int).map V.int)) e na
  clear na
  refine ⟨bigr rfl,fun b2 nb => ?_⟩
  obtain ⟨M,e2⟩:=M.lstE (o := .lst [V.ref a12,V.ref a13]) nb
  replace e:=za2 (o := .lst [V.ref a12,V.ref a13]) e nb
  clear nb
  refine ⟨_,_,_,_,rfl,rfl,e,e2,bigr rfl,fun c2 nc => ?_⟩
  obtain ⟨M,e⟩:=M.lstE (o := .lst [V.ref a1,V.ref a2,V.ref a3,V.ref a4,V.ref a5,V.ref a6,V.ref a7,V.ref a8,V.ref a9,V.ref a10,V.ref a11,V.ref a12,V.ref a13]) nc
  clear nc e2
  refine ⟨_,rfl,?_⟩
  refine ⟨bigr rfl,fun a14 na => ?_⟩
  replace M:=M.add [197,147,131] na
  replace e:=za2 (o := .tup (([197,147,131]:List Int).map V.int)) e na
  clear na
  refine ⟨bigr rfl,fun a15 na => ?_⟩
  replace M:=M.add [197,131,177] na
  replace e:=za2 (o := .tup (([197,131,177]:List Int).map V.int)) e na
  clear na
  refine ⟨bigr rfl,fun a16 na => ?_⟩
  replace M:=M.add [31,255] na
  replace e:=za2 (o := .tup (([31,255]:List Int).map V.int)) e na
  clear na
  refine ⟨bigr rfl,fun a17 na => ?_⟩
  replace M:=M.add [3,3] na
  replace e:=za2 (o := .tup (([3,3]:List Int).map V.int)) e na
  clear na
  refine ⟨bigr rfl,fun a18 na => ?_⟩
  replace M:=M.add [119,225,131,109] na
  replace e:=za2 (o := .tup (([119,225,131,109]:List Int).map V.int)) e na
  clear na
  refine ⟨bigr rfl,fun b3 nb => ?_⟩
  obtain ⟨M,e2⟩:=M.lstE (o := .lst [V.ref a14,V.ref a15,V.ref a16,V.ref a17,V.ref a18]) nb
  replace e:=za2 (o := .lst [V.ref a14,V.ref a15,V.ref a16,V.ref a17,V.ref a18]) e nb
  clear nb
  refine ⟨_,_,_,_,rfl,rfl,e,e2,bigr rfl,fun c3 nc => ?_⟩
  obtain ⟨M,e⟩:=M.lstE (o := .lst [V.ref a1,V.ref a2,V.ref a3,V.ref a4,V.ref a5,V.ref a6,V.ref a7,V.ref a8,V.ref a9,V.ref a10,V.ref a11,V.ref a12,V.ref a13,V.ref a14,V.ref a15,V.ref a16,V.ref a17,V.ref a18]) nc
  clear nc e2
  have p18:(0:Int) < 18:=by decide
  have k0:=Int.emod_nonneg k (show (18:Int)≠0 by decide)
  have k1:=Int.emod_lt_of_pos k p18
  have hi:(k % 18).toNat < menuRows.length:=by
   show (k % 18).toNat < 18
   omega
  obtain ⟨p,hp,ht⟩:=Rows.get (rs:=menuRows) M.rows (List.getElem?_eq_getElem hi)
  have ek:(((k % 18).toNat:Nat):Int)=k % 18:=by omega
  refine ⟨_,rfl,_,rfl,_,rfl,_,_,rfl,.inl (SqL.of e),_,_,rfl,rfl,p18,_,_,_,_,rfl,rfl,SqL.of e,?_,q p _ _ M.same ht (menu_ok (List.getElem?_eq_getElem hi))⟩
  show atI _ (k % 18)=_
  rw [<- ek]
  exact zas hp
theorem p3:(0:Int) < 3:=by decide
theorem p14:(0:Int) < 14:=by decide
theorem p42:(0:Int) < 42:=by decide
theorem zgQ:(0:Int) < 128:=by decide
noncomputable def manyL:List Int := [2,3,1,2,4,3,1,5,2,0,8,7,6,1]
theorem manyL_at {k:Int} (h0:0<=k) (h1:k < 14):∃ m:Int,atI (manyL.map V.int) k=some (V.int m)/\0<=m/\m<=8:=by
 refine ⟨_,zgL h0 (by show k < 14; exact h1),?_⟩
 have all:∀ x∈manyL,0<=x/\x<=8:=by decide
 refine all _ ?_
 have hk:k.toNat < manyL.length:=by show k.toNat < 14; omega
 rw [List.getD_eq_getElem?_getD,List.getElem?_eq_getElem hk]
 exact List.getElem_mem hk
theorem base_at {k:Int} (h0:0<=k) (h1:k < 2):∃ b:Int,atI [V.int 26,V.int 2] k=some (V.int b)/\(b=26\/b=2):=by
 rcases (by omega:k=0\/k=1) with h | h <;> subst h
 ·exact ⟨26,rfl,.inl rfl⟩
 ·exact ⟨2,rfl,.inr rfl⟩
noncomputable def bitOf (b:Int) (v:V):Bool:=match v with
 | .int t=>decide (Builtin.bitAnd (b / 2 ^ t.toNat) 1=1)
 | _=>false
noncomputable def sp_combs (K:W.Frag):Sp:=fun vs H Q _=>∃ (a:Addr) (ns:List Int),vs = [.ref a]/\SqL K H a (ns.map V.int)/\∀ p ks vs H',Same H H'->H p=none->H' p=some (.lst vs)->Drawn (fun _=>True) H' vs ks->ks.length<=8->Q (.ref p) H'
theorem zfa:FnScope ["_law_script","_law_head","_law_menu_here","_law_many","_law_found","_law_used","_law_k","_law_cell","_law_bits","_law_word_here"] ["_law_script"] (defScope s_combs):=⟨rfl,rfl,rfl,by decide +kernel,rfl,by decide +kernel,by decide +kernel⟩
theorem ok_combs (D:DefAt K mg "_law_combs" s_combs) (T:Bn mg) (C_at:Callee P w K mg base "_law_at" 1 ["_law_script","_law_k"] (sp_at K)) (C_mixed:Callee P w K mg base "_law_mixed" 1 ["_law_cell","_law_k"] sp_mixed) (C_word:Callee P w K mg base "_law_word" 1 ["_law_cell","_law_base"] sp_word)
  (C_spare:Callee P w K mg base "_law_spare" 1 ["_law_word_here","_law_used"] (sp_spare K)) (C_menu:Callee P w K mg base "_law_menu" 1 ["_law_k"] sp_menu):Callee P w K mg base "_law_combs" 2 ["_law_script"] (sp_combs K):=by
 refine D.calleeQ zfa (fun _ _ _ _ _ _=>ln1 fun _=>rfl) (fun vs H Q E h => ?_) (fun f cdv A outer s H vs Q E hr h => ?_)
 ·obtain ⟨a,ns,rfl,_⟩:=h
  rfl
 ·obtain ⟨a,ns,rfl,hS,q⟩:=h
  have S:=zfa
  refine ⟨_,zay (za4 (i:=1) S.nd rfl (Or.inl rfl) (qe (zaD C_at (hr.mono (by decide)) rfl (zaa (pv 0) (zaa (zac) zab)))))
  (zay (za4 (i:=2) S.nd rfl (Or.inl rfl) (qe (zaD C_menu (hr.mono (by decide)) rfl (zaa (zaD C_at (hr.mono (by decide)) rfl (zaa (pv 0) (zaa (zac) zab))) zab))))
  (zay (za4 (i:=3) S.nd rfl (Or.inl rfl) (qe_ix zaC (zbd (zae (qe (zac)) (zae (qe (zac)) (zae (qe (zac)) (zae (qe (zac)) (zae (qe (zac)) (zae (qe (zac)) (zae (qe (zac)) (zae (qe (zac)) (zae (qe (zac)) (zae (qe (zac)) (zae (qe (zac)) (zae (qe (zac)) (zae (qe (zac)) (zae (qe (zac)) (zaw)))))))))))))))) (qe (zav zbq (zav zbN (pv 1) (zac)) (zac))) (fun _ _=>rfl)))
  (qss_cut (qs (zaG (zao zbT (zav zbq (pv 1) (zac)) (zac) (zat _))
   (zaf (zam (i:=3) S.nd rfl (Or.inl rfl) (zah zau rfl T.n_len PySem.boot_len (zaa (pv 2) zab))))
   (zan)))
  (zay (za4 (i:=4) S.nd rfl (Or.inl rfl) (zbd (zaw)))
  (zay (za4 (i:=5) S.nd rfl (Or.inl rfl) (zbd (zaw)))
  (zay (qs (zaT PassesOwn.never rfl (za0 rfl T.n_range (zaa (pv 3) zab)) (zai (i:=6) S.nd rfl (Or.inl rfl))
   (zad (zam (i:=7) S.nd rfl (Or.inl rfl) (zaD C_at (hr.mono (by decide)) rfl (zaa (pv 0) (zaa (zav zbr (zac) (pv 6)) zab))))
   (zcj (zaG (zao zgm (zav zbq (pv 1) (zac)) (zac) (zat _))
    (zaf (zam (i:=7) S.nd rfl (Or.inl rfl) (zaD C_mixed (hr.mono (by decide)) rfl (zaa (pv 7) (zaa (pv 6) zab)))))
    (zan))
   (zad (zam (i:=8) S.nd rfl (Or.inr rfl) (zav zbr (zav zd3 (zav zbq (pv 7) (zac)) (zac)) (zac)))
   (zcj (zaG (zao zbT (zav zbq (pv 1) (zac)) (zac) (zat _))
    (zaf (zam (i:=8) S.nd rfl (Or.inr rfl) (zaz za6 (pv 2) (pv 6) (fun _ _=>rfl))))
    (zan))
   (zad (zam (i:=9) S.nd rfl (Or.inl rfl) (zaD C_spare (hr.mono (by decide)) rfl (zaa (zaD C_word (hr.mono (by decide)) rfl (zaa (zav zbN (pv 7) (zac)) (zaa (zaz zaC (zaN (zaa (zac) (zaa (zac) zab))) (zav zbq (zav zbN (pv 1) (zac)) (zac)) (fun _ _=>rfl)) zab))) (zaa (pv 5) zab))))
   (zad (zaI (zcl PySem.F.plainAttrs_list PySem.F.slot_list_append PySem.F.type_list_append zaH (pv 5) (zaa (pv 9) zab)))
   (zaf (zaI (zcl PySem.F.plainAttrs_list PySem.F.slot_list_append PySem.F.type_list_append zaH (pv 4) (zaa (zaN (zaa (pv 9) (zaa (zaU (own := ["_law_t"]) (caps := [(8,"_law_bits")]) rfl ⟨rfl,rfl,rfl,rfl,⟨⟨rfl,rfl,.inl rfl⟩,trivial⟩⟩ (za0 rfl T.n_range (zaa (zac) zab)) (fun _ _ _ _ _ _=>zai (i:=0) (zaM (by decide +kernel)) rfl (Or.inl rfl)) (fun _ _ _ _ _ _=>zci (zao zbT (zav zgw (zav op_shr (pv 1) (pv 0)) (zac)) (zac) (zat _))) (fun _ _ _ _ _ _=>pv 0)) zab))) zab))))))))))))
  (zey (zfM (qe (pv 4)))))))))),?_⟩
  refine ⟨_,rfl,a,ns,0,rfl,hS,by decide,?_⟩
  generalize ns.getD (Int.toNat 0) 0=head
  refine ⟨_,rfl,a,ns,1,rfl,hS,by decide,_,rfl,fun pm xs H1 s1 em hm => ?_⟩
  obtain ⟨m,hma,hm0,hm8⟩:=manyL_at (k:=head / 3 % 14) (Int.emod_nonneg _ (by decide)) (Int.emod_lt_of_pos _ p14)
  refine ⟨bigr rfl,fun b nb=>⟨_,rfl,_,_,rfl,rfl,⟨p3,by decide⟩,_,_,rfl,rfl,p14,_,_,_,_,rfl,rfl,SqL.of upd_same,hma,?_⟩⟩
  have s2:Same H (upd H1 b (.lst (manyL.map V.int))):=s1.put (s1.free nb)
  have em2:upd H1 b (.lst (manyL.map V.int)) pm=some (.tup (xs.map V.int)):=by rw [zag (zal em nb)]; exact em
  refine ⟨fun σ H'=>Same H H'/\H' pm=some (.tup (xs.map V.int))/\∃ m:Int,σ = [some (.ref a),some (.int head),some (.ref pm),some (.int m),none,none,none,none,none,none]/\0<=m/\m<=8/\(head % 3=2->m=xs.length),?_,?_⟩
  ·refine ⟨_,rfl,_,_,rfl,rfl,p3,rfl,_,rfl,?_⟩
   refine ite2 (fun hc => ?_) (fun hc => ?_)
   ·refine ⟨_,rfl,_,_,rfl,.inr (SqT.of em2),?_⟩
    rw [List.length_map]
    exact ⟨s2,em2,_,rfl,by omega,by have:=hm.1.2; omega,fun _=>rfl⟩
   ·have hc:¬ head % 3=2:=by simpa using hc
    exact ⟨s2,em2,_,rfl,hm0,hm8,fun z=>absurd z hc⟩
  clear s2 em2 hma hm0 hm8 nb b m s1 em H1
  rintro σ H1 ⟨s1,em,m,rfl,hm0,hm8,hm2⟩
  refine ⟨bigr rfl,fun pf nf => ?_⟩
  refine ⟨bigr rfl,fun pu nu => ?_⟩
  have nfu:pf≠pu:=fun z=>by rw [<- z,upd_same] at nu; cases nu
  have fH:H pf=none:=s1.free nf
  have s2:=(s1.put (o := .lst []) fH)
  have uH:H pu=none:=s2.free nu
  have s3:=s2.put (o := .lst []) uH
  have em3:upd (upd H1 pf (.lst [])) pu (.lst []) pm=some (.tup (xs.map V.int)):=by
   rw [zag (zal (by rw [zag (zal em nf)]; exact em) nu),zag (zal em nf)]; exact em
  refine ⟨_,rfl,_,rfl,by omega,by omega,?_⟩
  refine zbl (zaK 0 m.toNat) (fun i σ H'=>Same H H'/\H' pm=some (.tup (xs.map V.int))/\∃ (vs:List V) (ks:List (Str×List Int)) (x6 x7 x8 x9:Option V),σ = [some (.ref a),some (.int head),some (.ref pm),some (.int m),some (.ref pf),some (.ref pu),x6,x7,x8,x9] /\
   H' pf=some (.lst vs)/\H' pu=some (.lst ((ks.map (·.1)).map V.str))/\Drawn (fun x=>x≠pf/\x≠pu) H' vs ks/\ks.length=i) ⟨s3,em3,[],[],_,_,_,_,rfl,by rw [zag nfu,upd_same],by rw [upd_same]; rfl,⟨trivial,List.nodup_nil,by simp⟩,rfl⟩ (fun _ _ _ _ _=>trivial) ?_ ?_
  ·rintro i x σ H2 hx ⟨s2,em2,vs,ks,x6,x7,x8,x9,rfl,ef,eu,dr,hl⟩
   obtain ⟨hi,rfl⟩:=zbb hx
   have hi8:i < 8:=by omega
   have hS2:=s2.seq hS
   refine ⟨_,rfl,_,rfl,_,_,rfl,rfl,a,ns,_,rfl,hS2,?_,?_⟩
   ·show (0:Int)<=1 + (0 + ((i:Nat):Int))
    omega
   generalize ns.getD (1 + (0 + ((i:Nat):Int))).toNat 0=cell0
   refine ⟨fun σ H'=>H'=H2/\∃ (c:Int),σ = [some (.ref a),some (.int head),some (.ref pm),some (.int m),some (.ref pf),some (.ref pu),some (.int (0 + ((i:Nat):Int))),some (.int c),x8,x9],?_,?_⟩
   ·refine ⟨_,rfl,_,_,rfl,rfl,p3,_,_,rfl,rfl,_,rfl,?_⟩
    refine ite2 (fun _ => ?_) (fun _ => ?_)
    ·exact ⟨_,rfl,_,rfl,_,_,rfl,rfl,_,rfl⟩
    ·exact ⟨rfl,_,rfl⟩
   rintro σ H3 ⟨rfl,c,rfl⟩
   have c0:=Int.emod_nonneg c (show (128:Int)≠0 by decide)
   have c1:=Int.emod_lt_of_pos c zgQ
   refine ⟨_,rfl,_,_,rfl,rfl,zgQ,_,_,rfl,rfl,.inr ⟨by decide,by decide⟩,_,_,rfl,rfl,?_⟩
   refine ⟨fun σ H'=>H'=H3/\∃ (bt:Int),σ = [some (.ref a),some (.int head),some (.ref pm),some (.int m),some (.ref pf),some (.ref pu),some (.int (0 + ((i:Nat):Int))),some (.int c),some (.int bt),x9]/\bt % 2=1/\0<=bt,?_,?_⟩
   ·refine ⟨_,rfl,_,_,rfl,rfl,p3,rfl,_,rfl,?_⟩
    refine ite2 (fun hc => ?_) (fun hc => ?_)
    ·have hc:head % 3=2:=by simpa using hc
     have hix:i < xs.length:=by have:=hm2 hc; omega
     have hat:atI (xs.map V.int) (0 + ((i:Nat):Int))=some (V.int xs[i]):=by
      rw [Int.zero_add]
      refine zas ?_
      rw [List.getElem?_map,List.getElem?_eq_getElem hix]
      rfl
     have:=hm.2 xs[i] (List.getElem_mem hix)
     exact ⟨_,rfl,_,rfl,_,_,_,_,rfl,rfl,SqT.of em2,hat,rfl,_,rfl,this.1,this.2.1⟩
    ·exact ⟨rfl,_,rfl,by omega,by omega⟩
   rintro σ H4 ⟨rfl,bt,rfl,hb1,hb0⟩
   obtain ⟨bs,hbs,hb2⟩:=base_at (k:=head / 42 % 2) (Int.emod_nonneg _ (by decide)) (Int.emod_lt_of_pos _ p2)
   refine ⟨_,rfl,_,_,rfl,rfl,⟨zgQ,by decide⟩,bigr rfl,fun b nb=>⟨_,rfl,_,_,rfl,rfl,⟨p42,by decide⟩,_,_,rfl,rfl,p2,_,_,_,_,rfl,rfl,SqL.of upd_same,hbs,_,_,rfl,hb2,fun y hy => ?_⟩⟩
   have s4:=s2.put (o := .lst [V.int 26,V.int 2]) (s2.free nb)
   have t4:Same H4 (upd H4 b (.lst [V.int 26,V.int 2])):=Same.new nb
   have eu4:=t4 _ _ eu
   refine ⟨_,rfl,y,pu,ks.map (·.1),rfl,hy,SqL.of eu4,by rw [List.length_map]; omega,fun z H5 s5 hz hzn => ?_⟩
   have s5H:=s4.trans s5
   have t5:=t4.trans s5
   have eu5:=t5 _ _ eu
   have ef5:=t5 _ _ ef
   have em5:=t5 _ _ em2
   have dr5:=dr.same t5
   refine ⟨_,rfl,.inl ⟨rfl,_,SqL.of eu5⟩,_,rfl,_,_,_,rfl,rfl,eu5,?_,?_⟩
   ·rw [List.length_map,List.length_map]
    exact Nat.lt_of_lt_of_le (by omega:ks.length < 1000) zaR
   have s6:=s5H.put (o := .lst ((ks.map (·.1)).map V.str ++ [V.str z])) uH
   have dr6:Drawn (fun x=>x≠pf/\x≠pu) (upd H5 pu (.lst ((ks.map (·.1)).map V.str ++ [V.str z]))) vs ks:=dr5.upd fun z=>z.2 rfl
   have em6:upd H5 pu (.lst ((ks.map (·.1)).map V.str ++ [V.str z])) pm=some (.tup (xs.map V.int)):=by
    rw [zag (fun w=>by rw [w,eu5] at em5; cases em5)]; exact em5
   have ef6:upd H5 pu (.lst ((ks.map (·.1)).map V.str ++ [V.str z])) pf=some (.lst vs):=by rw [zag nfu]; exact ef5
   have eu6:upd H5 pu (.lst ((ks.map (·.1)).map V.str ++ [V.str z])) pu=some (.lst ((ks.map (·.1)).map V.str ++ [V.str z])):=upd_same
   generalize upd H5 pu (.lst ((ks.map (·.1)).map V.str ++ [V.str z]))=H6 at s6 dr6 em6 ef6 eu6
   refine ⟨_,rfl,.inl ⟨rfl,_,SqL.of ef6⟩,_,rfl,_,rfl,by decide,by decide,fun Dc hD => ?_⟩
   refine zbY (capv := [some (.int bt)]) (by rfl) (zaK 0 (8:Int).toNat) (bigr rfl) hD ?_ (bitOf bt) (fun v=>v) ?_ ?_ ?_
   ·exact fun _ _=>trivial
   ·intro v hv H' R s' h
    obtain ⟨t,ht,rfl⟩:=List.mem_map.mp hv
    refine ⟨_,rfl,_,rfl,_,_,rfl,rfl,?_,_,_,rfl,rfl,rfl,_,rfl,?_⟩
    ·show (0:Int)<=0 + ((t:Nat):Int)
     omega
    rw [zgH]
    exact h H' (Same.refl _)
   ·intro v hv hp H' R s' h
    exact ⟨_,rfl,h H' (Same.refl _)⟩
   intro H7 s7 e7
   have ets:(((((List.range (8:Int).toNat).map fun i=>V.int (0 + ((i:Nat):Int))).filter (bitOf bt)).map fun v=>v))=(((List.range 8).filter fun i=>bitOf bt (.int (0 + ((i:Nat):Int)))).map fun i=>((i:Nat):Int)).map V.int:=by
    rw [List.map_id',List.filter_map,List.map_map]
    show List.map _ (List.filter _ (List.range 8))=_
    congr 1
    funext i
    show V.int (0 + ((i:Nat):Int))=V.int ((i:Nat):Int)
    rw [Int.zero_add]
   have gt:GT (((List.range 8).filter fun i=>bitOf bt (.int (0 + ((i:Nat):Int)))).map fun i=>((i:Nat):Int)):=by
    refine ⟨_,rfl,?_⟩
    show decide (Builtin.bitAnd (bt / 2 ^ (0 + ((0:Nat):Int)).toNat) 1=1)=true
    rw [bitAnd_m1]
    apply decide_eq_true
    show bt / 1 % 2=1
    rw [Int.ediv_one]
    exact hb1
   rw [ets] at e7
   generalize (((List.range 8).filter fun i=>bitOf bt (.int (0 + ((i:Nat):Int)))).map fun i=>((i:Nat):Int))=ts at e7 gt
   refine ⟨bigr rfl,fun q' nq => ?_⟩
   have t7:Same H6 H7:=s7
   have n7:∀ {x o},H6 x=some o->x≠Dc:=fun e z=>by rw [z,hD] at e; cases e
   have n8:∀ {x o},H7 x=some o->x≠q':=fun e z=>by rw [z,nq] at e; cases e
   have ef8:upd H7 q' (.lst [V.str z,V.ref Dc]) pf=some (.lst vs):=by rw [zag (n8 (t7 _ _ ef6))]; exact t7 _ _ ef6
   refine ⟨_,_,_,rfl,rfl,ef8,?_,?_⟩
   ·rw [dr6.rows.length]
    exact Nat.lt_of_lt_of_le (by omega:ks.length < 1000) zaR
   have s8:=((s6.trans s7).put (o := .lst [V.str z,V.ref Dc]) ((s6.trans s7).free nq)).put (o := .lst (vs ++ [V.ref q'])) fH
   have fq:q'≠pf:=(n8 (t7 _ _ ef6)).symm
   have uq:q'≠pu:=(n8 (t7 _ _ eu6)).symm
   refine ⟨s8,?_,vs ++ [.ref q'],ks ++ [(z,ts)],_,_,_,_,rfl,upd_same,?_,?_,by rw [List.length_append,hl]; rfl⟩
   ·have fm:pm≠pf:=fun w=>by rw [w,ef6] at em6; cases em6
    rw [zag fm,zag (n8 (t7 _ _ em6))]
    exact t7 _ _ em6
   ·rw [zag nfu.symm,zag (n8 (t7 _ _ eu6)),t7 _ _ eu6,List.map_append,List.map_append]
    rfl
   ·refine Drawn.snoc (q:=q') (t:=Dc) (((dr6.same t7).same (Same.new nq)).upd fun w=>w.1 rfl) ?_ ?_ ⟨fq,uq⟩ ⟨(n7 ef6).symm,(n7 eu6).symm⟩ hzn ⟨hz,gt⟩
    ·rw [zag fq,upd_same]
    ·rw [zag (n7 ef6).symm,zag (n8 e7)]
     exact e7
  ·rintro σ H2 ⟨s2,em2,vs,ks,x6,x7,x8,x9,rfl,ef,eu,dr,hl⟩
   rw [List.length_map,List.length_range] at hl
   exact ⟨_,rfl,q pf ks vs H2 s2 fH ef dr.any (by omega)⟩
noncomputable def posV (v:V):Bool:=match v with
 | .int t=>decide (0 < t)
 | _=>false
noncomputable def decV (v:V):V:=match v with
 | .int t => .int (t - 1)
 | _ => .non
noncomputable def sp_after (K:W.Frag):Sp:=fun vs H Q _=>∃ (a t:Addr) (ah ts:List Int),vs = [.ref a,.ref t]/\SqT K H a (ah.map V.int)/\H t=some (.lst (ts.map V.int))/\ah.Nodup/\(∀ d∈ah,0<=d/\d<=6)/\ts.Nodup/\(∀ d∈ts,0<=d/\d<=7) /\
 (if meets ah ts=true then Q .non H else ∀ p H',Same H H'->H p=none->H' p=some (.tup ((afterOf ah ts).map V.int))->Q (.ref p) H')
theorem zfb:FnScope ["_law_ahead","_law_teeth_here","_law_t"] ["_law_ahead","_law_teeth_here"] (defScope s_after):=⟨rfl,rfl,rfl,by decide +kernel,rfl,by decide +kernel,by decide +kernel⟩
theorem ok_after (D:DefAt K mg "_law_after" s_after) (T:Bn mg):Callee P w K mg base "_law_after" 1 ["_law_ahead","_law_teeth_here"] (sp_after K):=by
 refine D.callee zfb (fun _ _ _ _ _ _=>ln2 fun _ _=>rfl) (fun vs H Q E h => ?_) (fun f cdv A outer s H vs Q E hr h => ?_)
 ·obtain ⟨a,t,ah,ts,rfl,_⟩:=h
  rfl
 ·obtain ⟨a,t,ah,ts,rfl,ha,ht,an,ar,tn,tr,q⟩:=h
  have S:=zfb
  have hal:ah.length<=8:=zcG an fun d hd=>by have:=ar d hd; omega
  have htl:ts.length<=8:=zcG tn tr
  refine ⟨_,zad (zaT PassesOwn.never rfl (zar (pv 1)) (zai (i:=2) S.nd rfl (Or.inl rfl))
   (zaf (zaG (zao zcL (pv 2) (pv 0) (by with_unfolding_all rfl))
    (zaf (zaj (zgv)))
    (zan))))
  (zaf (zaj (zbw call_tuple_of rfl T.n_tuple boot_tuple (zaa (zaU (own := ["_law_d"]) (caps := []) rfl ⟨rfl,rfl,rfl,rfl,trivial⟩ (zar (zah zcw rfl T.n_sorted boot_sorted (zaa (zav zbH (zbw zbO rfl T.n_list boot_list (zaa (pv 0) zab)) (pv 1)) zab))) (fun _ _ _ _ _ _=>zai (i:=0) (zaM (by decide +kernel)) rfl (Or.inl rfl)) (fun _ _ _ _ _ _=>zci (zao zgm (pv 0) (zac) (zat _))) (fun _ _ _ _ _ _=>zav zdi (pv 0) (zac))) zab)))),?_⟩
  refine ⟨_,rfl,_,rfl,⟨_,SqL.of ht⟩,?_⟩
  refine zbl (zak K t (ts.map V.int)) (fun i σ Hx=>Hx=H/\meets ah (ts.take i)=false/\∃ x2,σ = [some (.ref a),some (.ref t),x2]) ⟨rfl,rfl,_,rfl⟩ (fun i σ Hx _ h=>by rw [h.1]; exact SqL.of ht) ?_ ?_
  ·rintro i x σ Hx hx ⟨rfl,hm,x2,rfl⟩
   rw [List.getElem?_map] at hx
   cases hk:ts[i]? with
   | none=>rw [hk] at hx; cases hx
   | some y =>
    rw [hk] at hx
    cases hx
    refine ⟨_,rfl,_,rfl,_,_,rfl,.inr ha,rfl,zgV ah,_,rfl,?_⟩
    rw [if_neg (by decide),zf2]
    refine ite2 (fun hc => ?_) (fun hc => ?_)
    ·have hc:y∈ah:=by simpa using hc
     have:meets ah ts=true:=by
      unfold meets
      exact List.any_eq_true.mpr ⟨y,List.mem_of_getElem? hk,decide_eq_true hc⟩
     rw [if_pos this] at q
     exact q
    ·have hc:y ∉ ah:=by simpa using hc
     refine ⟨rfl,?_,_,rfl⟩
     rw [zaE hk]
     rw [meets_false] at hm ⊢
     intro z hz
     rcases List.mem_append.mp hz with h | h
     ·exact hm z h
     ·rw [List.mem_singleton.mp h]; exact hc
  ·rintro σ Hx ⟨rfl,hm,x2,rfl⟩
   rw [List.length_map,List.take_length] at hm
   rw [if_neg (by rw [hm]; decide)] at q
   refine ⟨_,rfl,a,_,rfl,.inr ha,fun p np=>⟨_,rfl,p,t,_,ts.map V.int,rfl,rfl,upd_same,?_,?_,fun p2 np2 => ?_⟩⟩
   ·rw [zag (zal ht np)]; exact ht
   ·rw [List.length_map,List.length_map]
    exact Nat.le_of_lt (Nat.lt_of_lt_of_le (by omega:ah.length + ts.length < 1000) zaR)
   refine ⟨p2,ah ++ ts,rfl,SqL.of (by rw [List.map_append]; exact upd_same),by rw [List.length_append]; omega,fun p3 ns np3 hp hs => ?_⟩
   have hc:=after_canon an ar tn tr hm hp hs
   have s1:Same Hx (upd Hx p (.lst (ah.map V.int))):=Same.new np
   have s2:=s1.trans (Same.new (o := .lst (ah.map V.int ++ ts.map V.int)) np2)
   have s3:=s2.trans (Same.new (o := .lst (ns.map V.int)) np3)
   refine ⟨_,rfl,⟨_,SqL.of upd_same⟩,fun Dc hD => ?_⟩
   have hnl:ns.length<=1000:=by
    have:=hp.length_eq
    rw [List.length_append] at this
    omega
   refine zbY (capv := []) (L:=ns.map V.int) (by rfl) (zak K p3 (ns.map V.int)) (by rw [List.length_map]; exact big hnl) hD (fun H' s'=>SqL.of (s' _ _ upd_same)) posV decV ?_ ?_ ?_
   ·intro v hv H' R s' h
    obtain ⟨d,hd,rfl⟩:=List.mem_map.mp hv
    exact ⟨_,rfl,_,_,rfl,rfl,_,rfl,h H' (Same.refl _)⟩
   ·intro v hv _ H' R s' h
    obtain ⟨d,hd,rfl⟩:=List.mem_map.mp hv
    exact ⟨_,rfl,_,_,rfl,rfl,h H' (Same.refl _)⟩
   ·intro H7 s7 e7
    have ets:(((ns.map V.int).filter posV).map decV)=(afterOf ah ts).map V.int:=by
     unfold afterOf
     rw [<- hc,List.filter_map,List.map_map,List.map_map]
     rfl
    rw [ets] at e7
    have s07:=s3.trans s7
    exact ⟨_,_,rfl,.inl ⟨SqL.of e7,fun l nl=>q l _ (s07.put (s07.free nl)) (s07.free nl) upd_same⟩⟩
noncomputable def sp_goes (K:W.Frag):Sp:=fun vs H Q _=>∃ (k a:Addr) (ws:List V) (ks:Combs) (ah:List Int),vs = [.ref k,.ref a]/\H k=some (.lst ws)/\KindsL (fun _=>True) H ws ks/\ks.length<=100/\(∀ c∈ks,GT c.2)/\SqT K H a (ah.map V.int)/\ah.Nodup/\(∀ d∈ah,0<=d/\d<=6) /\
 ∀ p H' vs',Same H H'->H p=none->H' p=some (.lst vs')->GoesR H' vs' (goesOf ks ah)->Q (.ref p) H'
theorem zfH:FnScope ["_law_kinds","_law_ahead","_law_found","_law_word_here","_law_teeth_here","_law_further"] ["_law_kinds","_law_ahead"] (defScope s_goes):=⟨rfl,rfl,rfl,by decide +kernel,rfl,by decide +kernel,by decide +kernel⟩
theorem ok_goes (D:DefAt K mg "_law_goes" s_goes) (T:Bn mg) (C_after:Callee P w K mg base "_law_after" 1 ["_law_ahead","_law_teeth_here"] (sp_after K)):Callee P w K mg base "_law_goes" 2 ["_law_kinds","_law_ahead"] (sp_goes K):=by
 refine D.callee zfH (fun _ _ _ _ _ _=>ln2 fun _ _=>rfl) (fun vs H Q E h => ?_) (fun f cdv A outer s H vs Q E hr h => ?_)
 ·obtain ⟨k,a,ws,ks,ah,rfl,_⟩:=h
  rfl
 ·obtain ⟨k,a,ws,ks,ah,rfl,hk,kr,hkl,hg,ha,an,ar,q⟩:=h
  have S:=zfH
  have hlen:=kr.length
  refine ⟨_,zad (zaG (zao zcL (zac) (pv 1) (by with_unfolding_all rfl))
   (zaf (zaj (zaN (zaa (zaY (zaa (zap) (zaa (zaD C_after (hr.mono (by decide)) rfl (zaa (pv 1) (zaa (zaN (zab)) zab))) zab))) zab))))
   (zan))
  (zad (zam (i:=2) S.nd rfl (Or.inl rfl) (zaN (zab)))
  (zad (zaT PassesOwn.never rfl (zar (pv 0)) (zff rfl (zax (zai (i:=3) S.nd rfl (Or.inl rfl)) (zax (zai (i:=4) S.nd rfl (Or.inl rfl)) (zbs))))
   (zad (zam (i:=5) S.nd rfl (Or.inl rfl) (zaD C_after (hr.mono (by decide)) rfl (zaa (pv 1) (zaa (pv 4) zab))))
   (zaf (zaG (zao op_notN (pv 5) (zgv) (zat _))
    (zaf (zaI (zcl PySem.F.plainAttrs_list PySem.F.slot_list_append PySem.F.type_list_append zaH (pv 2) (zaa (zaY (zaa (pv 3) (zaa (pv 5) zab))) zab))))
    (zan)))))
  (zaf (zaj (pv 2))))),?_⟩
  refine ⟨_,rfl,_,_,rfl,.inr ha,rfl,zgV ah,_,rfl,?_⟩
  rw [if_neg (by decide),zf2]
  refine ite2 (fun hc => ?_) (fun hc => ?_)
  ·have hc:(0:Int)∈ah:=by simpa using hc
   refine ⟨_,rfl,bigr rfl,fun p0 np0=>⟨a,p0,ah,[],rfl,(Same.new np0).tup ha,upd_same,an,ar,List.nodup_nil,by simp,?_⟩⟩
   rw [if_neg (show ¬ meets ah []=true from Bool.false_ne_true)]
   intro p1 H1 s1 n1 e1
   refine ⟨bigr rfl,fun p2 np2=>⟨bigr rfl,fun p3 np3 => ?_⟩⟩
   have s01:Same H H1:=(Same.new np0).trans s1
   have s2:=s01.trans (Same.new (o := .tup [.str "",.ref p1]) np2)
   refine q p3 _ [.ref p2] (s2.trans (Same.new np3)) (s2.free np3) upd_same ?_
   rw [goes_in hc]
   have e2:upd H1 p2 (.tup [.str "",.ref p1]) p2=some (.tup [.str "",.ref p1]):=upd_same
   have e1':upd H1 p2 (.tup [.str "",.ref p1]) p1=some (.tup ((afterOf ah []).map V.int)):=by rw [zag (zal e1 np2)]; exact e1
   refine ⟨⟨p2,p1,rfl,?_,?_⟩,trivial⟩
   ·rw [zag (zal e2 np3)]; exact e2
   ·rw [zag (zal e1' np3)]; exact e1'
  ·have hc:(0:Int) ∉ ah:=by simpa using hc
   refine ⟨bigr rfl,fun pf npf => ?_⟩
   have s1:Same H (upd H pf (.lst [])):=Same.new npf
   refine ⟨_,rfl,_,rfl,⟨_,SqL.of (s1 _ _ hk)⟩,?_⟩
   refine zbl (zak K k ws) (fun i σ Hx=>Same H Hx/\∃ vs x3 x4 x5,σ = [some (.ref k),some (.ref a),some (.ref pf),x3,x4,x5]/\Hx pf=some (.lst vs)/\vs.length<=i/\GoesR Hx vs (goesOf (ks.take i) ah)) ⟨s1,[],_,_,_,rfl,upd_same,Nat.le_refl _,?_⟩ (fun i σ Hx _ h=>SqL.of (h.1 _ _ hk)) ?_ ?_
   ·rw [List.take_zero,goes_nil hc]
    trivial
   ·rintro i x σ Hx hx ⟨sx,vs,x3,x4,x5,rfl,hpf,hvl,hgr⟩
    obtain ⟨c,qa,t,hkc,rfl,hq,ht⟩:=(kr.same sx).get hx
    have hi:i < ks.length:=(List.getElem?_eq_some_iff.mp hkc).1
    have gc:=hg c (List.mem_of_getElem? hkc)
    refine ⟨qa,_,rfl,SqL.of hq,rfl,_,_,rfl,_,_,rfl,rfl,?_⟩
    refine ⟨_,rfl,_,rfl,a,t,ah,c.2,rfl,sx.tup ha,ht,an,ar,za1 (zfx gc),zcy gc,?_⟩
    by_cases hm:meets ah c.2=true
    ·rw [if_pos hm]
     refine ⟨_,rfl,rfl,_,rfl,iteF ?_⟩
     refine ⟨sx,vs,_,_,_,rfl,hpf,by omega,?_⟩
     rw [zaE hkc,zef hc,if_pos hm,List.append_nil]
     exact hgr
    ·rw [if_neg hm]
     intro p1 H1 s1' n1 e1
     refine ⟨_,rfl,rfl,_,rfl,iteT ?_⟩
     have sx1:=s1'
     refine ⟨_,rfl,.inl ⟨rfl,_,SqL.of (s1' _ _ hpf)⟩,_,rfl,_,rfl,bigr rfl,fun p2 np2 => ?_⟩
     have s2:Same Hx (upd H1 p2 (.tup [.str c.1,.ref p1])):=s1'.trans (Same.new np2)
     have e2:upd H1 p2 (.tup [.str c.1,.ref p1]) p2=some (.tup [.str c.1,.ref p1]):=upd_same
     have e1':upd H1 p2 (.tup [.str c.1,.ref p1]) p1=some (.tup ((afterOf ah c.2).map V.int)):=by rw [zag (zal e1 np2)]; exact e1
     have hpf2:=s2 _ _ hpf
     refine ⟨pf,_,_,rfl,rfl,hpf2,Nat.lt_of_lt_of_le (by omega:vs.length < 1000) zaR,?_⟩
     have tn:∀ q' xs,upd H1 p2 (.tup [.str c.1,.ref p1]) q'=some (.tup xs)->upd (upd H1 p2 (.tup [.str c.1,.ref p1])) pf (.lst (vs ++ [.ref p2])) q'=some (.tup xs):=fun q' xs h=>by
      have:q'≠pf:=fun z=>by rw [z,hpf2] at h; cases h
      rw [zag this]; exact h
     refine ⟨(sx.trans s2).put npf,_,_,_,_,rfl,upd_same,(by rw [List.length_append,List.length_singleton]; omega),?_⟩
     rw [zaE hkc,zef hc,if_neg hm]
     exact GoesR.snoc (s:=(c.1,afterOf ah c.2)) (tn _ _ e2) (tn _ _ e1') (hgr.mono fun q' xs h=>tn _ _ (s2 _ _ h))
   ·rintro σ Hx ⟨sx,vs,x3,x4,x5,rfl,hpf,hvl,hgr⟩
    rw [hlen,List.take_length] at hgr
    exact ⟨_,rfl,q pf Hx vs sx npf hpf hgr⟩
theorem zcT {ks:Combs} (h8:ks.length<=8) (s:Nat) (hs:s < 128) (g:GC ks):(goesOf ks (aheadOf (s:Int))).length<=8:=by
 rw [<- List.length_map (f:=fun p:Str×List Int=>(p.1,worth p.2)),za9 hs g]
 exact zds h8 s
noncomputable def LeftR (H:Hp) (ws:List V) (ls:List Nat):Prop:=Paired (fun (s:Nat) (v:V)=>s < 128/\∃ q,v = .ref q/\H q=some (.tup ((aheadOf (s:Int)).map V.int))) ls ws
theorem LeftR.mono {H H':Hp} {ws:List V} {ls:List Nat} (r:LeftR H ws ls) (m:∀ q xs,H q=some (.tup xs)->H' q=some (.tup xs)):LeftR H' ws ls:=Paired.mapP r fun _ _ ⟨a,q,b,c⟩=>⟨a,q,b,m _ _ c⟩
noncomputable def intTup (ns:List Int):PyData := .tuple (ns.map PyData.int)
theorem LeftR.vd {K:W.Frag} {H:Hp} {ws:List V} {ls:List Nat} (r:LeftR H ws ls):VDs K H ws (ls.map fun (s:Nat)=>intTup (aheadOf (s:Int))):=by
 induction r with
 | nil=>exact .nil
 | cons h _ ih =>
  obtain ⟨_,q,rfl,e⟩:=h
  exact .cons (.tup (SqT.of e) (VDs.map fun u _ => .int u)) ih
theorem shaped_tups (ls:List (List Int)):SeqAt.shaped (.list (ls.map intTup))=true:=by
 have h0:∀ a:List Int,PyData.canLayAll0 (a.map PyData.int)=true/\PyData.depthAll (a.map PyData.int)=0:=by
  intro a
  induction a with
  | nil=>exact ⟨rfl,rfl⟩
  | cons x a ih=>rw [List.map_cons,PyData.canLayAll0,PyData.depthAll,ih.1,ih.2]; exact ⟨rfl,rfl⟩
 have h1:∀ ls:List (List Int),PyData.canLayAll0 (ls.map intTup)=true/\PyData.depthAll (ls.map intTup)<=1:=by
  intro ls
  induction ls with
  | nil=>exact ⟨rfl,Nat.zero_le _⟩
  | cons x ls ih =>
   rw [List.map_cons,PyData.canLayAll0,PyData.depthAll]
   unfold intTup
   refine ⟨?_,?_⟩
   ·rw [show PyData.canLayAll0 (List.map (fun ns:List Int=>PyData.tuple (ns.map PyData.int)) ls)=true from ih.1]
    simp [PyData.canLay0,(h0 x).1]
   ·have:=ih.2
    unfold intTup at this
    simp only [PyData.depth,(h0 x).2]
    omega
 have:=h1 ls
 have h2:PyData.depth (.list (ls.map intTup))<=64:=by
  rw [PyData.depth]
  omega
 have h3:PyData.canLay0 (.list (ls.map intTup))=true:=by
  simp [PyData.canLay0,this.1]
 unfold SeqAt.shaped
 rw [h3,decide_eq_true h2]
 rfl
noncomputable def sp_graph:Sp:=fun vs H Q _=>∃ (k b:Addr) (ws:List V) (ks:Combs) (s0:Nat),vs = [.ref k,.ref b]/\H k=some (.lst ws)/\KindsL (fun _=>True) H ws ks/\ks.length<=8/\GC ks/\s0 < 128/\H b=some (.tup ((aheadOf (s0:Int)).map V.int))/\∀ p kvs L H',Same H H'->H p=none->H' p=some (.dT kvs)->GrL H' kvs ks L->L.Nodup->ClsS ks L->s0∈L->Q (.ref p) H'
theorem ze9:FnScope ["_law_kinds","_law_begin","_law_graph_here","_law_left","_law_ahead","_law_word_here","_law_further"] ["_law_kinds","_law_begin"] (defScope s_graph):=⟨rfl,rfl,rfl,by decide +kernel,rfl,by decide +kernel,by decide +kernel⟩
theorem ok_graph (D:DefAt K mg "_law_graph" s_graph) (T:Bn mg) (C_goes:Callee P w K mg base "_law_goes" 2 ["_law_kinds","_law_ahead"] (sp_goes K)):Callee P w K mg base "_law_graph" 3 ["_law_kinds","_law_begin"] sp_graph:=by
 refine D.callee ze9 (fun _ _ _ _ _ _=>ln2 fun _ _=>rfl) (fun vs H Q E h => ?_) (fun f cdv A outer s H vs Q E hr h => ?_)
 ·obtain ⟨k,b,ws,ks,s0,rfl,_⟩:=h
  rfl
 ·obtain ⟨k,b,ws,ks,s0,rfl,hk,kr,h8,gc,hs0,hb,q⟩:=h
  have S:=ze9
  have hu:=zcx hr
  refine ⟨_,zad (zam (i:=2) S.nd rfl (Or.inl rfl) (zdy))
  (zad (zam (i:=3) S.nd rfl (Or.inl rfl) (zaN (zaa (pv 1) zab)))
  (zad (zfe PassesOwn.never (zao (op_neD hr.units) (pv 3) (zaN (zab)) (zat _))
   (zad (zam (i:=4) S.nd rfl (Or.inl rfl) (pe_bm0 PySem.F.plainAttrs_list PySem.F.slot_list_pop PySem.F.type_list_pop mt_pop (pv 3)))
   (zaf (zaG (zdZ (zd2 hu (pv 4) (pv 2)))
    (zad (zdw hu (pv 2) (pv 4) (zaD C_goes (hr.mono (by decide)) rfl (zaa (pv 0) (zaa (pv 4) zab))) rfl)
    (zaf (zaT PassesOwn.never rfl (zar (zck hu (pv 2) (pv 4) (fun _ _=>rfl))) (zdh rfl (zax (zai (i:=5) S.nd rfl (Or.inl rfl)) (zax (zai (i:=6) S.nd rfl (Or.inl rfl)) (zbs))))
     (zaf (zaI (zcl PySem.F.plainAttrs_list PySem.F.slot_list_append PySem.F.type_list_append zaH (pv 3) (zaa (pv 6) zab)))))))
    (zan)))))
  (zaf (zaj (pv 2))))),?_⟩
  refine fun g ng=>⟨_,rfl,bigr rfl,fun l nl => ?_⟩
  have s1:Same H (upd H g (.dT [])):=Same.new ng
  have nl0:H l=none:=s1.free nl
  have hgl:g≠l:=fun z=>by rw [<- z,upd_same] at nl; cases nl
  have s2:Same H (upd (upd H g (.dT [])) l (.lst [.ref b])):=s1.trans (Same.new nl)
  refine ⟨fun m σ Hx=>∃ kvs L wl ls x4 x5 x6,σ = [some (.ref k),some (.ref b),some (.ref g),some (.ref l),x4,x5,x6]/\Same H Hx/\Hx g=some (.dT kvs)/\Hx l=some (.lst wl)/\LeftR Hx wl ls/\GrL Hx kvs ks L/\(∀ kv∈kvs,kv.2 ≠ .ref l)/\L.Nodup/\(∀ s∈L,s < 128)/\(∀ s∈L,∀ p∈stp ks s,p.2.toNat∈L\/p.2.toNat∈ls)/\(s0∈L\/s0∈ls)/\ls.length<=2000 - 9 * (128 - L.length)/\m=9 * (128 - L.length) + ls.length,⟨_,[],[],[.ref b],[s0],_,_,_,rfl,s2,(by rw [zag hgl]; exact upd_same),upd_same,.cons ⟨hs0,b,rfl,s2 _ _ hb⟩ .nil,.nil,nofun,List.nodup_nil,nofun,nofun,.inr (by simp),(show 1<=2000 - 9 * (128 - 0) by decide),rfl⟩,?_⟩
  rintro m σ Hx ⟨kvs,L,wl,ls,x4,x5,x6,rfl,sx,hg,hl,lr,gr,hkl,nd,lt,cl,h0,hlb,rfl⟩
  have hL128:L.length<=128:=zaX 128 L nd lt
  refine ⟨_,rfl,bigr rfl,fun e ne => ?_⟩
  have se:Same Hx (upd Hx e (.lst [])):=Same.new ne
  refine ⟨_,_,.lst (SqL.of (se _ _ hl)) (lr.mono fun _ _ z=>se _ _ z).vd,.lst (SqL.of upd_same) .nil,?_,by decide,_,rfl,?_⟩
  ·have:=shaped_tups (ls.map fun (s:Nat)=>aheadOf (s:Int))
   rwa [List.map_map] at this
  have hll:=Paired.length lr
  cases hls:ls with
  | nil =>
   subst hls
   rw [if_pos rfl,show PyData.eqv (.list (List.map (fun s:Nat=>intTup (aheadOf (s:Int))) [])) (.list [])=true by decide]
   refine iteF ?_
   refine ⟨_,rfl,q g kvs L _ (sx.trans se) ng (se _ _ hg) (gr.same se) nd ⟨lt,fun s hs p hp=>(cl s hs p hp).resolve_right (by simp)⟩ (h0.resolve_right (by simp))⟩
  | cons t0 ts0 =>
   have hlpos:0 < ls.length:=by rw [hls]; simp
   rw [<- hls]
   rw [if_pos rfl,show PyData.eqv (.list (ls.map fun s:Nat=>intTup (aheadOf (s:Int)))) (.list [])=false by rw [hls]; simp [PyData.eqv,PyData.eqvAll]]
   refine iteT ?_
   have hg:=se _ _ hg
   have hl:=se _ _ hl
   have lr:LeftR (upd Hx e (.lst [])) wl ls:=lr.mono fun _ _ z=>se _ _ z
   have gr:=gr.same se
   have sx:=sx.trans se
   generalize upd Hx e (.lst [])=Hy at hg hl lr gr sx
   clear se ne
   refine ⟨fun σ' H'=>∃ m',m' < 9 * (128 - L.length) + ls.length/\∃ kvs L wl ls x4 x5 x6,σ' = [some (.ref k),some (.ref b),some (.ref g),some (.ref l),x4,x5,x6]/\Same H H'/\H' g=some (.dT kvs)/\H' l=some (.lst wl)/\LeftR H' wl ls/\GrL H' kvs ks L/\(∀ kv∈kvs,kv.2 ≠ .ref l)/\L.Nodup/\(∀ s∈L,s < 128)/\(∀ s∈L,∀ p∈stp ks s,p.2.toNat∈L\/p.2.toNat∈ls)/\(s0∈L\/s0∈ls)/\ls.length<=2000 - 9 * (128 - L.length)/\m'=9 * (128 - L.length) + ls.length,fun _ _ h=>h,?_⟩
   obtain ⟨v,ev,t128,qt,rfl,hqt⟩:=Paired.at lr (List.getElem?_eq_getElem (show ls.length - 1 < ls.length by omega))
   have els:ls=ls.dropLast ++ [ls[ls.length - 1]'(by omega)]:=by
    have hne:ls ≠ []:=fun z=>by rw [z] at hlpos; simp at hlpos
    have:=(List.dropLast_concat_getLast hne).symm
    rwa [List.getLast_eq_getElem] at this
   generalize ls[ls.length - 1]'(by omega)=t at ev t128 hqt els
   refine ⟨_,rfl,.inl ⟨rfl,_,SqL.of hl⟩,l,wl,.ref qt,rfl,rfl,hl,(by rw [<- hll]; exact ev),?_⟩
   have ldl:ls.dropLast.length=ls.length - 1:=List.length_dropLast
   have lr1:LeftR (upd Hy l (.lst wl.dropLast)) wl.dropLast ls.dropLast:=by
    have h1:LeftR Hy wl.dropLast ls.dropLast:=by
     have:∀ {a:List Nat} {c:List V},LeftR Hy c a->LeftR Hy c.dropLast a.dropLast:=by
      intro a c r
      induction r with
      | nil=>exact .nil
      | cons h r' ih =>
       cases r' with
       | nil=>exact .nil
       | cons h2 r2=>exact .cons h ih
     exact this lr
    exact h1.mono fun qa xs z=>by rw [zag (fun z2=>by rw [z2,hl] at z; cases z)]; exact z
   have gr1:GrL (upd Hy l (.lst wl.dropLast)) kvs ks L:=gr.mono (fun kv hkv qa vs z z2=>by rw [zag (fun z3=>hkl kv hkv (by rw [z,z3]))]; exact z2) fun qa xs z=>by rw [zag (fun z2=>by rw [z2,hl] at z; cases z)]; exact z
   have hg1:upd Hy l (.lst wl.dropLast) g=some (.dT kvs):=by rw [zag hgl]; exact hg
   have hl1:upd Hy l (.lst wl.dropLast) l=some (.lst wl.dropLast):=upd_same
   have hqt1:upd Hy l (.lst wl.dropLast) qt=some (.tup ((akey t).map kV)):=by
    rw [zag (fun z2=>by rw [z2,hl] at hqt; cases hqt)]
    unfold akey
    rw [kI_V]
    exact hqt
   have sx1:Same H (upd Hy l (.lst wl.dropLast)):=sx.put nl0
   generalize upd Hy l (.lst wl.dropLast)=H1 at lr1 gr1 hg1 hl1 hqt1 sx1
   clear lr gr hg hl hqt sx
   refine ⟨_,rfl,_,rfl,g,_,rfl,DGet.t hg1 hqt1,_,rfl,?_⟩
   have hh:=gr1.has lt t128
   by_cases hin:t∈L
   ·have hh2:(valV kvs (akey t)).isSome=true:=by rw [hh]; exact decide_eq_true hin
    obtain ⟨vv,hvv⟩:=Option.isSome_iff_exists.mp hh2
    rw [hvv]
    refine iteF ?_
    refine ⟨_,?_,kvs,L,wl.dropLast,ls.dropLast,_,_,_,rfl,sx1,hg1,hl1,lr1,gr1,hkl,nd,lt,fun s hs p hp => ?_,?_,by omega,rfl⟩
    ·omega
    ·rcases cl s hs p hp with z | z
     ·exact .inl z
     ·rw [els] at z
      rcases List.mem_append.mp z with z | z
      ·exact .inr z
      ·rw [List.mem_singleton.mp z]; exact .inl hin
    ·rcases h0 with z | z
     ·exact .inl z
     ·rw [els] at z
      rcases List.mem_append.mp z with z | z
      ·exact .inr z
      ·rw [List.mem_singleton.mp z]; exact .inl hin
   ·have hno:valV kvs (akey t)=none:=by
     cases ez:valV kvs (akey t) with
     | none=>rfl
     | some v=>rw [ez] at hh; exact absurd (of_decide_eq_true hh.symm) hin
    rw [hno]
    refine iteT ?_
    have hqi:H1 qt=some (.tup ((aheadOf (t:Int)).map V.int)):=by
     have:=hqt1
     unfold akey at this
     rwa [kI_V] at this
    refine ⟨_,rfl,_,rfl,k,qt,ws,ks,aheadOf (t:Int),rfl,sx1 _ _ hk,kr.same sx1,by omega,gc,SqT.of hqi,zb4 _,zbC,fun pv H2 vs' s2 npv hpv gv => ?_⟩
    have nd1:(L ++ [t]).Nodup:=List.nodup_append.mpr ⟨nd,by simp,fun u hu v hv e=>by rw [List.mem_singleton.mp hv] at e; exact hin (e ▸ hu)⟩
    have lt1:∀ s∈L ++ [t],s < 128:=fun s hs=>(List.mem_append.mp hs).elim (lt s) fun z=>by rw [List.mem_singleton.mp z]; exact t128
    have hL1:(L ++ [t]).length<=128:=zaX 128 _ nd1 lt1
    rw [List.length_append,List.length_singleton] at hL1
    have hkl2:=gr1.len
    refine ⟨_,rfl,_,rfl,g,_,rfl,DPut.t (k:=akey t) (s2 _ _ hg1) (s2 _ _ hqt1) (Nat.lt_of_lt_of_le (by omega:kvs.length < 1000) zaR),?_⟩
    rw [zfd _ hno]
    have hg2:=s2 _ _ hg1
    have keep:∀ qa o,(∃ xs,o=HO.lst xs)\/(∃ xs,o=HO.tup xs)->H2 qa=some o->upd H2 g (.dT (kvs ++ [(akey t,.ref pv)])) qa=some o:=fun qa o ho ea=>by
     rw [zag (fun z=>by rw [z,hg2] at ea; cases ea; rcases ho with ⟨_,h⟩ | ⟨_,h⟩ <;> cases h)]
     exact ea
    have hpl:pv≠l:=fun z=>by rw [z,hl1] at npv; cases npv
    have gr3:GrL (upd H2 g (.dT (kvs ++ [(akey t,.ref pv)]))) (kvs ++ [(akey t,.ref pv)]) ks (L ++ [t]) :=
     ((gr1.same s2).mono (fun _ _ qa vs _ e=>keep _ _ (.inl ⟨_,rfl⟩) e) fun qa xs e=>keep _ _ (.inr ⟨_,rfl⟩) e).snoc (keep _ _ (.inl ⟨_,rfl⟩) hpv) (gv.mono fun qa xs e=>keep _ _ (.inr ⟨_,rfl⟩) e)
    have gv3:GoesR (upd H2 g (.dT (kvs ++ [(akey t,.ref pv)]))) vs' (goesOf ks (aheadOf (t:Int))):=gv.mono fun qa xs e=>keep _ _ (.inr ⟨_,rfl⟩) e
    have lr3:=(lr1.mono fun _ _ z=>s2 _ _ z).mono fun qa xs e=>keep _ _ (.inr ⟨_,rfl⟩) e
    have hl3:=keep _ _ (.inl ⟨_,rfl⟩) (s2 _ _ hl1)
    have hpv3:=keep _ _ (.inl ⟨_,rfl⟩) hpv
    have hqt3:=keep _ _ (.inr ⟨_,rfl⟩) (s2 _ _ hqt1)
    have hg3:upd H2 g (.dT (kvs ++ [(akey t,.ref pv)])) g=some (.dT (kvs ++ [(akey t,.ref pv)])):=upd_same
    have sx3:Same H (upd H2 g (.dT (kvs ++ [(akey t,.ref pv)]))):=(sx1.trans s2).put ng
    generalize upd H2 g (.dT (kvs ++ [(akey t,.ref pv)]))=H3 at gr3 gv3 lr3 hl3 hpv3 hqt3 hg3 sx3
    have hkl3:∀ kv∈kvs ++ [(akey t,V.ref pv)],kv.2 ≠ .ref l:=fun kv hkv=>by
     rcases List.mem_append.mp hkv with z | z
     ·exact hkl kv z
     ·rw [List.mem_singleton.mp z]
      exact fun z=>hpl (by injection z)
    have dg:DGet H3 g (.ref qt) (some (.ref pv)):=by
     have:valV (kvs ++ [(akey t,V.ref pv)]) (akey t)=some (.ref pv):=by
      rw [<- zfd _ hno,zeT,if_pos rfl]
     rw [<- this]
     exact DGet.t hg3 hqt3
    refine ⟨_,rfl,_,rfl,_,_,rfl,dg,_,rfl,⟨_,SqL.of hpv3⟩,?_⟩
    have hgl8:=zcT h8 t t128 gc
    have hvl:=gv3.length
    refine zbl (zak K pv vs') (fun i σ Hz=>Same H Hz/\∃ wl' x5 x6,σ = [some (.ref k),some (.ref b),some (.ref g),some (.ref l),some (.ref qt),x5,x6]/\Hz g=some (.dT (kvs ++ [(akey t,.ref pv)]))/\Hz l=some (.lst wl')/\Hz pv=some (.lst vs')/\LeftR Hz wl' (ls.dropLast ++ ((goesOf ks (aheadOf (t:Int))).take i).map fun p=>(worth p.2).toNat)/\GrL Hz (kvs ++ [(akey t,.ref pv)]) ks (L ++ [t])/\GoesR Hz vs' (goesOf ks (aheadOf (t:Int)))) ⟨sx3,wl.dropLast,_,_,rfl,hg3,hl3,hpv3,(by simpa using lr3),gr3,gv3⟩ (fun i σ Hz _ h=>by obtain ⟨_,_,_,_,_,_,_,h,_⟩:=h; exact SqL.of h) ?_ ?_
    ·rintro i x σ Hz hx ⟨sz,wl',x5,x6,rfl,hgz,hlz,hpz,lz,grz,gvz⟩
     obtain ⟨q1,t1,rfl,e2,e3,hlt⟩:=gvz.nth hx
     have hmem:(goesOf ks (aheadOf (t:Int)))[i]∈goesOf ks (aheadOf (t:Int)):=List.getElem_mem hlt
     have egd:(goesOf ks (aheadOf (t:Int))).getD i ("",[])=(goesOf ks (aheadOf (t:Int)))[i]:=by rw [List.getD_eq_getElem?_getD,List.getElem?_eq_getElem hlt]; rfl
     rw [egd] at e2 e3
     obtain ⟨k1,k2,k3,k4⟩:=zbz t128 gc hmem
     have hwl':=Paired.length lz
     rw [List.length_append,List.length_map,List.length_take,ldl] at hwl'
     refine ⟨q1,_,rfl,SqT.of e2,rfl,_,_,rfl,_,_,rfl,rfl,?_⟩
     refine ⟨_,rfl,.inl ⟨rfl,_,SqL.of hlz⟩,_,rfl,l,wl',_,rfl,rfl,hlz,Nat.lt_of_lt_of_le (by omega:wl'.length < 3000) (by decide),?_⟩
     have kt:∀ qa xs,Hz qa=some (.tup xs)->upd Hz l (.lst (wl' ++ [.ref t1])) qa=some (.tup xs):=fun qa xs z=>by rw [zag (fun z2=>by rw [z2,hlz] at z; cases z)]; exact z
     refine ⟨sz.put nl0,_,_,_,rfl,(by rw [zag hgl]; exact hgz),upd_same,(by rw [zag hpl]; exact hpz),?_,grz.mono (fun kv hkv qa vs z z2=>by rw [zag (fun z3=>hkl3 kv hkv (by rw [z,z3]))]; exact z2) kt,gvz.mono kt⟩
     rw [List.take_succ_eq_append_getElem hlt,List.map_append,<- List.append_assoc]
     refine Paired.snoc (lz.mono kt) ⟨k1,t1,rfl,kt _ _ ?_⟩
     have e4:aheadOf (((worth (goesOf ks (aheadOf (t:Int)))[i].2).toNat:Nat):Int)=(goesOf ks (aheadOf (t:Int)))[i].2:=zec (by rw [k3]; rfl)
     rw [e4]
     exact e3
    ·rintro σ Hz ⟨sz,wl',x5,x6,rfl,hgz,hlz,hpz,lz,grz,gvz⟩
     rw [hvl,List.take_length] at lz
     have est:(goesOf ks (aheadOf (t:Int))).map (fun p=>(worth p.2).toNat)=(stp ks t).map fun p=>p.2.toNat:=by
      rw [<- za9 t128 gc,List.map_map]
      rfl
     refine ⟨_,?_,_,L ++ [t],wl',_,_,_,_,rfl,sz,hgz,hlz,lz,grz,hkl3,nd1,lt1,fun s hs p hp => ?_,?_,?_,rfl⟩
     ·rw [List.length_append,List.length_append,List.length_singleton,List.length_map,ldl]
      omega
     ·rw [est]
      rcases List.mem_append.mp hs with z | z
      ·rcases cl s z p hp with z | z
       ·exact .inl (List.mem_append_left _ z)
       ·rw [els] at z
        rcases List.mem_append.mp z with z | z
        ·exact .inr (List.mem_append_left _ z)
        ·rw [List.mem_singleton.mp z]; exact .inl (List.mem_append_right _ (List.mem_singleton.mpr rfl))
      ·rw [List.mem_singleton.mp z] at hp
       exact .inr (List.mem_append_right _ (List.mem_map.mpr ⟨p,hp,rfl⟩))
     ·rcases h0 with z | z
      ·exact .inl (List.mem_append_left _ z)
      ·rw [els] at z
       rcases List.mem_append.mp z with z | z
       ·exact .inr (List.mem_append_left _ z)
       ·rw [List.mem_singleton.mp z]; exact .inl (List.mem_append_right _ (List.mem_singleton.mpr rfl))
     ·rw [List.length_append,List.length_append,List.length_singleton,List.length_map,ldl]
      omega
theorem LeftR.in128 {H:Hp} {ws:List V} {ls:List Nat} (r:LeftR H ws ls):∀ s∈ls,s < 128:=by
 induction r with
 | nil=>simp
 | cons h _ ih =>
  intro s hs
  rcases List.mem_cons.mp hs with rfl | hs
  ·exact h.1
  ·exact ih s hs
theorem left_of {H:Hp}:∀ {ls:List Nat} {ws:List V},TupsR H (ls.map fun (s:Nat)=>aheadOf (s:Int)) ws->(∀ s∈ls,s < 128)->LeftR H ws ls
 | [],_,.nil,_ => .nil
 | s :: ls,_,.cons h r,lt => .cons ⟨lt s List.mem_cons_self,h⟩ (left_of r fun t ht=>lt t (List.mem_cons_of_mem _ ht))
theorem zdG {rs:List Nat} (lt:∀ s∈rs,s < 128) {t:Nat} (ht:t < 128):akey t∈rs.map akey ↔ t∈rs:=by
 rw [List.mem_map]
 exact ⟨fun ⟨s,hs,e⟩=>zcC (lt s hs) ht e ▸ hs,fun h=>⟨t,h,rfl⟩⟩
noncomputable def addN (rs:List Nat) (t:Nat):List Nat:=if t∈rs then rs else rs ++ [t]
theorem addN_mem {rs:List Nat} {t s:Nat}:s∈addN rs t ↔ s∈rs\/s=t:=by
 unfold addN
 split
 ·rename_i h
  exact ⟨.inl,fun z=>z.elim id fun e=>e ▸ h⟩
 ·rw [List.mem_append,List.mem_singleton]
theorem zgj {rs:List Nat} {t:Nat} (nd:rs.Nodup):(addN rs t).Nodup:=by
 unfold addN
 split
 ·exact nd
 ·rename_i z
  refine List.nodup_append.mpr ⟨nd,by simp,fun u hu v hv e => ?_⟩
  rw [List.mem_singleton.mp hv] at e
  exact z (e ▸ hu)
theorem zeu {kvs:List (List Key×V)} {rs:List Nat} {t:Nat} {v:V} (lt:∀ s∈rs,s < 128) (ht:t < 128) (hk:kvs.map (·.1)=rs.map akey):(putK kvs (akey t) v).map (·.1)=(addN rs t).map akey:=by
 rw [putK_keys,hk]
 unfold addN
 by_cases z:t∈rs
 ·rw [if_pos ((zdG lt ht).mpr z),if_pos z]
 ·rw [if_neg (fun h=>z ((zdG lt ht).mp h)),if_neg z,List.map_append]
  rfl
theorem keys_perm {nss:List (List Int)} {rs:List Nat} (p:nss.Perm (rs.map fun (s:Nat)=>aheadOf (s:Int))) (lt:∀ s∈rs,s < 128):∃ rs':List Nat,rs'.Perm rs/\nss=rs'.map fun (s:Nat)=>aheadOf (s:Int):=by
 refine ⟨nss.map fun ns=>(worth ns).toNat,?_,?_⟩
 ·have:=p.map fun ns=>(worth ns).toNat
  rw [List.map_map] at this
  have e:rs.map ((fun ns=>(worth ns).toNat) ∘ fun (s:Nat)=>aheadOf (s:Int))=rs:=by
   conv=>rhs; rw [<- List.map_id rs]
   refine List.map_congr_left fun s hs => ?_
   show (worth (aheadOf (s:Int))).toNat=s
   rw [za7 (by omega) (by have:=lt s hs; omega)]
   simp
  rwa [e] at this
 ·rw [List.map_map]
  conv=>lhs; rw [<- List.map_id nss]
  refine List.map_congr_left fun ns hns => ?_
  obtain ⟨s,hs,rfl⟩:=List.mem_map.mp (p.mem_iff.mp hns)
  show aheadOf (s:Int)=aheadOf (((worth (aheadOf (s:Int))).toNat:Nat):Int)
  rw [za7 (by omega) (by have:=lt s hs; omega)]
  simp
theorem zf4 {hvs:List (List Key×V)} {hs:List Nat} (hk:hvs.map (·.1)=hs.map akey) (lt:∀ s∈hs,s < 128) {t:Nat} (ht:t < 128):(valV hvs (akey t)).isSome=decide (t∈hs):=by
 rw [Bool.eq_iff_iff,valV_mem,hk,decide_eq_true_eq]
 exact zdG lt ht
theorem any_rangeH {α : Type} (l:List α) (p : α -> Bool) (d : α):((List.range l.length).map fun i=>p (l.getD i d)).any (fun b=>b)=l.any p:=by
 rw [zch l d p,List.any_map]
 rfl
noncomputable def EndAt (H:Hp) (W:Nat->Nat->Nat) (L:List Nat) (q:Addr) (k:Nat):Prop:=∃ (evs:List (List Key×V)) (es:List Nat),H q=some (.dT evs)/\evs.map (·.1)=es.map akey/\(∀ s∈es,s∈L)/\∀ s∈L,s∈es ↔ 0 < W k s
noncomputable def EndsR (H:Hp) (W:Nat->Nat->Nat) (L:List Nat) (ws:List V) (n:Nat):Prop:=ws.length=n/\∀ k,k < n->∃ q,ws[k]?=some (.ref q)/\EndAt H W L q k
theorem EndAt.same {H H':Hp} {W:Nat->Nat->Nat} {L:List Nat} {q:Addr} {k:Nat} (e:EndAt H W L q k) (s:∀ u,H q=some u->H' q=some u):EndAt H' W L q k:=by
 obtain ⟨evs,es,h1,h2⟩:=e
 exact ⟨evs,es,s _ h1,h2⟩
noncomputable def sp_ends:Sp:=fun vs H Q _=>∃ (g:Addr) (kvs:List (List Key×V)) (ks:Combs) (L:List Nat) (n:Nat),vs = [.ref g,.int (n:Nat)]/\H g=some (.dT kvs)/\GrL H kvs ks L/\L.Nodup/\ClsS ks L/\0∈L/\GC ks/\ks.length<=8/\n<=900/\∀ (p:Addr) (ws:List V) (H':Hp),Same H H'->H' p=some (.lst ws)->EndsR H' (Wy ks) L ws (n + 1)->(∀ (k:Nat) (q:Addr),ws[k]?=some (.ref q)->H q=none)->Q (.ref p) H'
noncomputable def sp_written:Sp:=fun vs H Q _=>∃ (g:Addr) (kvs:List (List Key×V)) (ks:Combs) (L:List Nat) (n:Nat),vs = [.ref g,.int (n:Nat)]/\H g=some (.dT kvs)/\GrL H kvs ks L/\L.Nodup/\ClsS ks L/\0∈L/\GC ks/\ks.length<=8/\n<=200/\Wy ks n 0<=150/\∀ (p:Addr) (ws:List V) (H':Hp),Same H H'->H' p=some (.lst ws)->EvR H' ws ((WR ks n n).map (·.2))->Q (.ref p) H'
noncomputable def blk (ks:Combs) (k i s:Nat) (l:List (Nat×Str)) (u:Nat):List (Nat×List (Nat×Str)):=(((goesOf ks (aheadOf (s:Int))).take u).filter fun p=>decide (0 < Wy ks k (worth p.2).toNat)).map fun p=>((worth p.2).toNat,ext i l p.1)
theorem blk_all {ks:Combs} (g:GC ks) {k i s:Nat} (hs:s < 128) (l:List (Nat×Str)):blk ks k i s l (goesOf ks (aheadOf (s:Int))).length=((stp ks s).filter fun p=>decide (0 < Wy ks k p.2.toNat)).map fun p=>(p.2.toNat,ext i l p.1):=by
 unfold blk
 rw [List.take_length,<- za9 hs g,List.filter_map,List.map_map]
 rfl
theorem zdb:FnScope ["_law_graph_here","_law_length","_law_table","_law_rows","_law_place","_law_ends_here","_law_more","_law_ahead","_law_layings_here","_law_word_here","_law_further"] ["_law_graph_here","_law_length"] (defScope s_written):=⟨rfl,rfl,rfl,by decide +kernel,rfl,by decide +kernel,by decide +kernel⟩
theorem ok_written (D:DefAt K mg "_law_written" s_written) (T:Bn mg) (C_ends:Callee P w K mg base "_law_ends" 1 ["_law_graph_here","_law_length"] sp_ends):Callee P w K mg base "_law_written" 2 ["_law_graph_here","_law_length"] sp_written:=by
 refine D.callee zdb (fun _ _ _ _ _ _=>ln2 fun _ _=>rfl) (fun vs H Q E h => ?_) (fun f cdv A outer s H vs Q E hr h => ?_)
 ·obtain ⟨g,kvs,ks,L,n,rfl,_⟩:=h
  rfl
 ·obtain ⟨g,kvs,ks,L,n,rfl,hg,gr,ndL,cl,h0L,gc,h8,hn,h150,q⟩:=h
  have ltL:=cl.1
  have S:=zdb
  have hu:=zcx hr
  have inL:∀ {i:Nat},i<=n->∀ a∈WR ks n i,a.1∈L:=by
   intro i
   induction i with
   | zero=>intro _ a ha; rw [List.mem_singleton.mp ha]; exact h0L
   | succ i ih =>
    intro hi a ha
    obtain ⟨b,hb,ha⟩:=List.mem_flatMap.mp ha
    obtain ⟨p,hp,rfl⟩:=List.mem_map.mp ha
    exact cl.2 _ (ih (by omega) b hb) p (List.mem_filter.mp hp).1
  refine ⟨_,zad (zam (i:=2) S.nd rfl (Or.inl rfl) (zaD C_ends (hr.mono (by decide)) rfl (zaa (pv 0) (zaa (pv 1) zab))))
  (zad (zam (i:=3) S.nd rfl (Or.inl rfl) (zaN (zaa (zaY (zaa (zaY (zab)) (zaa (zaN (zab)) zab))) zab)))
  (zad (zaT PassesOwn.never rfl (za0 rfl T.n_range (zaa (pv 1) zab)) (zai (i:=4) S.nd rfl (Or.inl rfl))
   (zad (zam (i:=5) S.nd rfl (Or.inl rfl) (zaz zaC (pv 2) (zav zdi (zav zdi (pv 1) (zac)) (pv 4)) (fun _ _=>rfl)))
   (zad (zam (i:=6) S.nd rfl (Or.inl rfl) (zaN (zab)))
   (zad (zaT PassesOwn.never rfl (zar (pv 3)) (zdh rfl (zax (zai (i:=7) S.nd rfl (Or.inl rfl)) (zax (zai (i:=8) S.nd rfl (Or.inl rfl)) (zbs))))
    (zaf (zaT PassesOwn.never rfl (zar (zck hu (pv 0) (pv 7) (fun _ _=>rfl))) (zdh rfl (zax (zai (i:=9) S.nd rfl (Or.inl rfl)) (zax (zai (i:=10) S.nd rfl (Or.inl rfl)) (zbs))))
     (zaf (zaG (PW.pt (pw_and (zdZ (zfk hu (pv 10) (pv 5))) (pw_and1 (zao zbT (pv 9) (zap) (zat _)))))
      (zaf (zaI (zcl PySem.F.plainAttrs_list PySem.F.slot_list_append PySem.F.type_list_append zaH (pv 6) (zaa (zaY (zaa (pv 10) (zaa (pv 8) zab))) zab))))
      (zaf (zaG (zdZ (zfk hu (pv 10) (pv 5)))
       (zaf (zaI (zcl PySem.F.plainAttrs_list PySem.F.slot_list_append PySem.F.type_list_append zaH (pv 6) (zaa (zaY (zaa (pv 10) (zaa (zav zbH (pv 8) (zaN (zaa (zaY (zaa (pv 4) (zaa (pv 9) zab))) zab))) zab))) zab))))
       (zan))))))))
   (zaf (zam (i:=3) S.nd rfl (Or.inl rfl) (pv 6)))))))
  (zaf (zaj (zaU (own := ["_law_row"]) (caps := []) rfl ⟨rfl,rfl,rfl,rfl,trivial⟩ (zar (pv 3)) (fun _ _ _ _ _ _=>zai (i:=0) (zaM (by decide +kernel)) rfl (Or.inl rfl)) (fun _ _ _ _ _ _=>za8) (fun _ _ _ _ _ _=>zaz (zeD K rfl) (pv 0) (zac) (fun _ _=>rfl))))))),?_⟩
  refine ⟨_,rfl,_,rfl,g,kvs,ks,L,n,rfl,hg,gr,ndL,cl,h0L,gc,h8,by omega,fun tb wt H1 s1 htb er _ => ?_⟩
  refine ⟨bigr rfl,fun t0 nt0=>⟨bigr rfl,fun l0 nl0=>⟨bigr rfl,fun q0 nq0=>⟨bigr rfl,fun r0 nr0 => ?_⟩⟩⟩⟩
  have s2:Same H1 (upd H1 t0 (.tup [])):=Same.new nt0
  have ht2:upd H1 t0 (.tup []) t0=some (.tup ((akey 0).map kV)):=by
   rw [upd_same]
   unfold akey
   rw [kI_V,show aheadOf ((0:Nat):Int) = [] by decide]
   rfl
  generalize upd H1 t0 (.tup [])=H2 at s2 ht2 nl0 nq0 nr0 ⊢
  have s3:Same H2 (upd H2 l0 (.lst [])):=Same.new nl0
  have hl3:upd H2 l0 (.lst []) l0=some (.lst []):=upd_same
  generalize upd H2 l0 (.lst [])=H3 at s3 hl3 nq0 nr0 ⊢
  have s4:Same H3 (upd H3 q0 (.tup [.ref t0,.ref l0])):=Same.new nq0
  have hq4:upd H3 q0 (.tup [.ref t0,.ref l0]) q0=some (.tup [.ref t0,.ref l0]):=upd_same
  generalize upd H3 q0 (.tup [.ref t0,.ref l0])=H4 at s4 hq4 nr0 ⊢
  have s5:Same H4 (upd H4 r0 (.lst [.ref q0])):=Same.new nr0
  have hr5:upd H4 r0 (.lst [.ref q0]) r0=some (.lst [.ref q0]):=upd_same
  have hl4:=s4 _ _ hl3
  have hlr:l0≠r0:=fun z=>by rw [<- z,hl4] at nr0; cases nr0
  have w5:WrR (upd H4 r0 (.lst [.ref q0])) r0 [.ref q0] (WR ks n 0) := .cons ⟨q0,t0,l0,[],rfl,hlr,s5 _ _ hq4,s5 _ _ (s4 _ _ (s3 _ _ ht2)),s5 _ _ hl4,.nil⟩ .nil
  have s05:=s1.trans ((s2.trans s3).trans (s4.trans s5))
  have htb5:=((s2.trans s3).trans (s4.trans s5)) _ _ htb
  have er5:∀ k,k < n + 1->∃ q,wt[k]?=some (.ref q)/\EndAt (upd H4 r0 (.lst [.ref q0])) (Wy ks) L q k:=fun k hk=>by
   obtain ⟨q,e1,e2⟩:=er.2 k hk
   exact ⟨q,e1,e2.same fun u e=>((s2.trans s3).trans (s4.trans s5)) _ _ e⟩
  generalize upd H4 r0 (.lst [.ref q0])=H5 at s05 hr5 w5 htb5 er5 ⊢
  clear s2 s3 s4 s5 er
  refine ⟨_,rfl,_,rfl,by omega,by omega,?_⟩
  rw [show ((n:Nat):Int).toNat=n by omega]
  refine zbl (zaK 0 n) (fun i σ Hx=>Same H5 Hx/\∃ (rp:Addr) (ws:List V) (x4 x5 x6 x7 x8 x9 x10:Option V),σ = [some (.ref g),some (.int (n:Nat)),some (.ref tb),some (.ref rp),x4,x5,x6,x7,x8,x9,x10]/\Hx rp=some (.lst ws)/\WrR Hx rp ws (WR ks n i)) ⟨Same.refl _,r0,[.ref q0],_,_,_,_,_,_,_,rfl,hr5,w5⟩ (fun _ _ _ _ _=>trivial) ?_ ?_
  ·rintro i x σ Hx hx ⟨sx,rp,ws,x4,x5,x6,x7,x8,x9,x10,rfl,hrp,wr⟩
   obtain ⟨hi,rfl⟩:=zbb hx
   have hi:i < n:=by simpa using hi
   rw [Int.zero_add]
   obtain ⟨qt,et,dvs,ds,hqt,hdk,hdL,hdW⟩:=er5 (n - 1 - i) (by omega)
   have ltd:∀ s∈ds,s < 128:=fun s hs=>ltL s (hdL s hs)
   have eix:((n:Nat):Int) - 1 - ((i:Nat):Int)=((n - 1 - i:Nat):Int):=by omega
   refine ⟨_,rfl,_,rfl,_,_,rfl,rfl,_,rfl,_,_,rfl,rfl,_,_,_,_,rfl,rfl,SqL.of (sx _ _ htb5),by rw [eix]; exact zas et,?_⟩
   refine ⟨bigr rfl,fun mo nmo => ?_⟩
   have s6:Same Hx (upd Hx mo (.lst [])):=Same.new nmo
   have nmo5:H5 mo=none:=sx.free nmo
   have hrm:rp≠mo:=fun z=>by rw [z,nmo] at hrp; cases hrp
   have wr6:WrR (upd Hx mo (.lst [])) mo ws (WR ks n i):=wr.mono (fun _ _ e=>s6 _ _ e) fun qq xs _ e=>⟨s6 _ _ e,fun z=>by rw [z,nmo] at e; cases e⟩
   have hwl:=Paired.length wr
   have hlen:=zgN ks n i (by omega)
   refine ⟨_,rfl,_,rfl,⟨_,SqL.of (s6 _ _ hrp)⟩,?_⟩
   refine zbl (zak K rp ws) (fun j σ Hy=>Same H5 Hy/\Hy rp=some (.lst ws)/\WrR Hy mo ws (WR ks n i)/\∃ (wm:List V) (x7 x8 x9 x10:Option V),σ = [some (.ref g),some (.int (n:Nat)),some (.ref tb),some (.ref rp),some (.int (i:Nat)),some (.ref qt),some (.ref mo),x7,x8,x9,x10]/\Hy mo=some (.lst wm)/\WrR Hy mo wm (((WR ks n i).take j).flatMap fun a=>blk ks (n - 1 - i) i a.1 a.2 (goesOf ks (aheadOf (a.1:Int))).length)/\wm.length<=8 * j) ⟨sx.trans s6,s6 _ _ hrp,wr6,[],_,_,_,_,rfl,upd_same,.nil,Nat.zero_le _⟩ (fun j σ Hy _ h=>SqL.of h.2.1) ?_ ?_
   ·rintro j y σ Hy hy ⟨sy,hry,wry,wm,x7',x8',x9',x10',rfl,hmo,wrm,hml⟩
    obtain ⟨⟨s0,la⟩,ea,q1,t1,l1,wl1,rfl,hl1m,hq1,ht1,hl1,ly1⟩:=Paired.rev wry hy
    have ham:=List.mem_of_getElem? ea
    have hsL:=inL (by omega) _ ham
    have hs1:=ltL s0 hsL
    have hj:j < (WR ks n i).length:=(List.getElem?_eq_some_iff.mp ea).1
    have hlal:wl1.length<=i:=by rw [<- Paired.length ly1]; exact zgk gc ham
    refine ⟨q1,_,rfl,SqT.of hq1,rfl,_,_,rfl,_,_,rfl,rfl,?_⟩
    obtain ⟨qv,vv,ev,hqv,gv⟩:=(gr.same (s05.trans sy)).val ndL ltL hsL
    have dg:DGet Hy g (.ref t1) (some (.ref qv)):=by rw [<- ev]; exact DGet.t ((s05.trans sy) _ _ hg) ht1
    refine ⟨_,rfl,_,rfl,_,_,rfl,dg,_,rfl,⟨_,SqL.of hqv⟩,?_⟩
    have hvl:vv.length=(goesOf ks (aheadOf (s0:Int))).length:=gv.length
    have hg8:=zcT h8 _ hs1 gc
    have hqm:qv≠mo:=fun z=>by
     obtain ⟨qv',vv',ev',hqv',gv'⟩:=(gr.same s05).val ndL ltL hsL
     have e9:=ev.symm.trans ev'
     injection e9 with e9
     injection e9 with e9
     rw [<- e9,z,nmo5] at hqv'
     cases hqv'
    refine zbl (zak K qv vv) (fun u σ Hz=>Same H5 Hz/\Hz rp=some (.lst ws)/\WrR Hz mo ws (WR ks n i)/\Hz qv=some (.lst vv)/\GoesR Hz vv (goesOf ks (aheadOf (s0:Int)))/\Hz l1=some (.lst wl1)/\LyR Hz wl1 la/\∃ (wm:List V) (x9 x10:Option V),σ = [some (.ref g),some (.int (n:Nat)),some (.ref tb),some (.ref rp),some (.int (i:Nat)),some (.ref qt),some (.ref mo),some (.ref t1),some (.ref l1),x9,x10]/\Hz mo=some (.lst wm)/\WrR Hz mo wm ((((WR ks n i).take j).flatMap fun a=>blk ks (n - 1 - i) i a.1 a.2 (goesOf ks (aheadOf (a.1:Int))).length) ++ blk ks (n - 1 - i) i s0 la u)/\wm.length<=8 * j + u) ⟨sy,hry,wry,hqv,gv,hl1,ly1,wm,_,_,rfl,hmo,by unfold blk; rw [List.take_zero,List.filter_nil,List.map_nil,List.append_nil]; exact wrm,by omega⟩ (fun u σ Hz _ h=>SqL.of h.2.2.2.1) ?_ ?_
    ·rintro u y σ Hz hy ⟨sz,hrz,wrz,hqz,gz,hlz,lyz,wmz,x9,x10,rfl,hmz,wrmz,hmlz⟩
     obtain ⟨q2,t2,rfl,e2,e3,hltj⟩:=gz.nth hy
     have egd:(goesOf ks (aheadOf (s0:Int))).getD u ("",[])=(goesOf ks (aheadOf (s0:Int)))[u]:=by rw [List.getD_eq_getElem?_getD,List.getElem?_eq_getElem hltj]; rfl
     rw [egd] at e2 e3
     obtain ⟨k1,k2,k3,k4⟩:=zbz hs1 gc (List.getElem_mem hltj)
     have inL2:=cl.2 s0 hsL _ k4
     have e3':Hz t2=some (.tup ((akey (worth (goesOf ks (aheadOf (s0:Int)))[u].2).toNat).map kV)):=by rw [<- k3,kI_V]; exact e3
     have hu8:u < 8:=by omega
     have ebl:blk ks (n - 1 - i) i s0 la (u + 1)=blk ks (n - 1 - i) i s0 la u ++ if 0 < Wy ks (n - 1 - i) (worth (goesOf ks (aheadOf (s0:Int)))[u].2).toNat then [((worth (goesOf ks (aheadOf (s0:Int)))[u].2).toNat,ext i la (goesOf ks (aheadOf (s0:Int)))[u].1)] else []:=by
      unfold blk
      rw [List.take_succ_eq_append_getElem hltj,List.filter_append,List.map_append,List.filter_cons,List.filter_nil]
      by_cases z:0 < Wy ks (n - 1 - i) (worth (goesOf ks (aheadOf (s0:Int)))[u].2).toNat
      ·rw [if_pos z,if_pos (decide_eq_true z)]; rfl
      ·rw [if_neg z,if_neg (by rw [decide_eq_true_eq]; exact z)]; rfl
     generalize hgu:(goesOf ks (aheadOf (s0:Int)))[u]=gu at e2 e3 e3' k1 k2 k3 inL2 ebl
     have dge:DGet Hz qt (.ref t2) (valV dvs (akey (worth gu.2).toNat)):=DGet.t (sz _ _ hqt) e3'
     have hkey:=zf4 hdk ltd k1
     rw [decide_eq_decide.mpr (hdW _ inL2)] at hkey
     have hlong:wmz.length < 2000:=by omega
     have za2:∀ {Hw:Hp} (o:List V),Same Hz Hw->(∀ qq xs,Hw qq=some (.tup xs)->upd Hw mo (.lst o) qq=some (.tup xs))/\∀ qq xs,qq≠mo->Hw qq=some (.lst xs)->upd Hw mo (.lst o) qq=some (.lst xs)/\qq≠mo:=fun {Hw} o sw=>⟨fun qq xs e=>by rw [zag (fun z=>by rw [z,sw _ _ hmz] at e; cases e)]; exact e,fun qq xs nq e=>⟨by rw [zag nq]; exact e,nq⟩⟩
     refine ⟨q2,_,rfl,SqT.of e2,rfl,_,_,rfl,_,_,rfl,rfl,?_⟩
     refine ⟨_,rfl,_,rfl,_,_,rfl,dge,_,rfl,?_⟩
     rw [hkey]
     by_cases hw:0 < Wy ks (n - 1 - i) (worth gu.2).toNat
     ·rw [if_pos hw] at ebl
      rw [decide_eq_true hw]
      refine iteT ?_
      refine ⟨_,rfl,rfl,_,rfl,?_⟩
      by_cases hz:gu.1=Str.ofString ""
      ·rw [decide_eq_true (by rw [hz])]
       refine iteT ?_
       refine ⟨_,rfl,.inl ⟨rfl,_,SqL.of hmz⟩,_,rfl,_,rfl,bigr rfl,fun tq ntq => ?_⟩
       have s7:Same Hz (upd Hz tq (.tup [.ref t2,.ref l1])):=Same.new ntq
       have htq:upd Hz tq (.tup [.ref t2,.ref l1]) tq=some (.tup [.ref t2,.ref l1]):=upd_same
       generalize upd Hz tq (.tup [.ref t2,.ref l1])=H7 at s7 htq ⊢
       obtain ⟨kt,kl⟩:=za2 (wmz ++ [.ref tq]) s7
       refine ⟨mo,wmz,_,rfl,rfl,s7 _ _ hmz,Nat.lt_of_lt_of_le hlong (by decide),?_⟩
       have ws7:WrR H7 mo (wmz ++ [.ref tq]) _:=(wrmz.mono (fun _ _ e=>s7 _ _ e) fun _ _ nq e=>⟨s7 _ _ e,nq⟩).snoc (a:=((worth gu.2).toNat,ext i la gu.1)) hl1m htq (s7 _ _ e3') (s7 _ _ hlz) (by
        show LyR _ _ (ext i la gu.1)
        unfold ext
        rw [if_pos hz]
        exact lyz.mono fun _ _ e=>s7 _ _ e)
       refine ⟨(sz.trans s7).put nmo5,(kl _ _ hrm (s7 _ _ hrz)).1,(wrz.mono (fun _ _ e=>s7 _ _ e) fun _ _ nq e=>⟨s7 _ _ e,nq⟩).mono kt kl,(kl _ _ hqm (s7 _ _ hqz)).1,gz.mono fun _ _ e=>kt _ _ (s7 _ _ e),(kl _ _ hl1m (s7 _ _ hlz)).1,lyz.mono fun _ _ e=>kt _ _ (s7 _ _ e),_,_,_,rfl,upd_same,?_,by rw [List.length_append,List.length_singleton]; omega⟩
       rw [ebl,<- List.append_assoc]
       exact ws7.mono kt kl
      ·rw [decide_eq_false (fun z=>hz (by injection z))]
       refine iteF ?_
       refine ⟨_,rfl,_,rfl,_,_,rfl,dge,_,rfl,?_⟩
       rw [hkey,decide_eq_true hw]
       refine iteT ?_
       refine ⟨_,rfl,.inl ⟨rfl,_,SqL.of hmz⟩,_,rfl,_,rfl,_,rfl,_,rfl,bigr rfl,fun ta nta => ?_⟩
       have s7:Same Hz (upd Hz ta (.tup [.int (i:Nat),.str gu.1])):=Same.new nta
       have hta:upd Hz ta (.tup [.int (i:Nat),.str gu.1]) ta=some (.tup [.int (i:Nat),.str gu.1]):=upd_same
       generalize upd Hz ta (.tup [.int (i:Nat),.str gu.1])=H7 at s7 hta ⊢
       refine ⟨bigr rfl,fun lb nlb => ?_⟩
       have s8:Same H7 (upd H7 lb (.lst [.ref ta])):=Same.new nlb
       have hlb:upd H7 lb (.lst [.ref ta]) lb=some (.lst [.ref ta]):=upd_same
       generalize upd H7 lb (.lst [.ref ta])=H8 at s8 hlb ⊢
       have s78:=s7.trans s8
       refine ⟨_,_,_,_,rfl,rfl,s78 _ _ hlz,hlb,big (show wl1.length + 1<=1000 by omega),fun lc nlc => ?_⟩
       have s9:Same H8 (upd H8 lc (.lst (wl1 ++ [.ref ta]))):=Same.new nlc
       have hlc:upd H8 lc (.lst (wl1 ++ [.ref ta])) lc=some (.lst (wl1 ++ [.ref ta])):=upd_same
       have hlcm:lc≠mo:=fun z=>by rw [z,s78 _ _ hmz] at nlc; cases nlc
       generalize upd H8 lc (.lst (wl1 ++ [.ref ta]))=H9 at s9 hlc ⊢
       refine ⟨bigr rfl,fun tq ntq => ?_⟩
       have s10:Same H9 (upd H9 tq (.tup [.ref t2,.ref lc])):=Same.new ntq
       have htq:upd H9 tq (.tup [.ref t2,.ref lc]) tq=some (.tup [.ref t2,.ref lc]):=upd_same
       generalize upd H9 tq (.tup [.ref t2,.ref lc])=H10 at s10 htq ⊢
       have s70:=(s78.trans s9).trans s10
       obtain ⟨kt,kl⟩:=za2 (wmz ++ [.ref tq]) s70
       refine ⟨mo,wmz,_,rfl,rfl,s70 _ _ hmz,Nat.lt_of_lt_of_le hlong (by decide),?_⟩
       have ws7:WrR H10 mo (wmz ++ [.ref tq]) _:=(wrmz.mono (fun _ _ e=>s70 _ _ e) fun _ _ nq e=>⟨s70 _ _ e,nq⟩).snoc (a:=((worth gu.2).toNat,ext i la gu.1)) hlcm htq (s70 _ _ e3') (s10 _ _ hlc) (by
        show LyR _ _ (ext i la gu.1)
        unfold ext
        rw [if_neg hz]
        exact ly_snoc (lyz.mono fun _ _ e=>s70 _ _ e) (s10 _ _ (s9 _ _ (s8 _ _ hta))))
       refine ⟨(sz.trans s70).put nmo5,(kl _ _ hrm (s70 _ _ hrz)).1,(wrz.mono (fun _ _ e=>s70 _ _ e) fun _ _ nq e=>⟨s70 _ _ e,nq⟩).mono kt kl,(kl _ _ hqm (s70 _ _ hqz)).1,gz.mono fun _ _ e=>kt _ _ (s70 _ _ e),(kl _ _ hl1m (s70 _ _ hlz)).1,lyz.mono fun _ _ e=>kt _ _ (s70 _ _ e),_,_,_,rfl,upd_same,?_,by rw [List.length_append,List.length_singleton]; omega⟩
       rw [ebl,<- List.append_assoc]
       exact ws7.mono kt kl
     ·rw [if_neg hw,List.append_nil] at ebl
      rw [decide_eq_false hw]
      refine iteF ?_
      refine ⟨_,rfl,_,rfl,_,_,rfl,dge,_,rfl,?_⟩
      rw [hkey,decide_eq_false hw]
      exact iteF ⟨sz,hrz,wrz,hqz,gz,hlz,lyz,wmz,_,_,rfl,hmz,by rw [ebl]; exact wrmz,by omega⟩
    ·rintro σ Hz ⟨sz,hrz,wrz,hqz,gz,hlz,lyz,wmz,x9,x10,rfl,hmz,wrmz,hmlz⟩
     rw [hvl] at wrmz hmlz
     refine ⟨sz,hrz,wrz,wmz,_,_,_,_,rfl,hmz,?_,by omega⟩
     rw [zaE ea,List.flatMap_append,List.flatMap_cons,List.flatMap_nil,List.append_nil]
     exact wrmz
   ·rintro σ Hy ⟨sy,hry,wry,wm,x7',x8',x9',x10',rfl,hmo,wrm,hml⟩
    rw [<- hwl,List.take_length] at wrm
    refine ⟨_,rfl,sy,mo,wm,_,_,_,_,_,_,_,rfl,hmo,?_⟩
    have e:((WR ks n i).flatMap fun a=>blk ks (n - 1 - i) i a.1 a.2 (goesOf ks (aheadOf (a.1:Int))).length)=WR ks n (i + 1):=by
     show _=(WR ks n i).flatMap _
     exact flat_congr fun a ha=>blk_all gc (ltL _ (inL (by omega) a ha)) a.2
    rw [<- e]
    exact wrm
  ·rintro σ Hx ⟨sx,rp,ws,x4,x5,x6,x7,x8,x9,x10,rfl,hrp,wr⟩
   rw [zbi] at wr
   have hwl:=Paired.length wr
   have hlen:=zgN ks n n (Nat.le_refl n)
   refine ⟨_,rfl,_,rfl,⟨_,SqL.of hrp⟩,fun D hD => ?_⟩
   refine zgf (capv := []) (by rfl) (zak K rp ws) (big (by omega)) hD (fun H' s'=>SqL.of (s' _ _ hrp)) (fun _=>true) (fun Hy j v=>∃ a,(WR ks n n)[j]?=some a/\∃ l wl,v = .ref l/\Hy l=some (.lst wl)/\LyR Hy wl a.2) ?_ ?_ ?_ ?_ ?_
   ·rintro Ha Hb j v s' ⟨a,e,l,wl,e1,e2,e3⟩
    exact ⟨a,e,l,wl,e1,s' _ _ e2,e3.mono fun _ _ z=>s' _ _ z⟩
   ·rintro Ha j v l' l'' hv hl ⟨a,e,l,wl,rfl,e2,e3⟩
    refine ⟨a,e,l,wl,rfl,?_,e3.mono fun q xs z => ?_⟩
    ·rw [zag (fun z=>hv (by rw [z]))]; exact e2
    ·rw [zag (fun z2=>by rw [z2,hl] at z; cases z)]; exact z
   ·exact fun j x hx H' R s' h=>h H' (Same.refl _)
   ·intro j x hx _ H' R s' _ h
    obtain ⟨a,ea,q1,t1,l1,wl1,rfl,_,hq1,ht1,hl1,ly1⟩:=Paired.rev wr hx
    refine ⟨_,rfl,_,_,_,_,rfl,rfl,SqT.of (s' _ _ hq1),at1,?_⟩
    refine h H' _ (Same.refl _) (fun z => ?_) ⟨a,ea,l1,wl1,rfl,s' _ _ hl1,ly1.mono fun _ _ z=>s' _ _ z⟩
    injection z with z
    rw [z,hD] at hl1
    cases hl1
   ·intro H' ys s' e pr
    refine q D ys H' ((s05.trans sx).trans s') e ?_
    rw [List.filter_eq_self.mpr (fun _ _=>rfl)] at pr
    have e2:(WR ks n n).map (·.2)=(List.range ws.length).map fun j=>((WR ks n n).getD j (0,[])).2:=by
     rw [<- hwl,zch (WR ks n n) (0,[]) fun a=>a.2]
    rw [e2]
    refine paired_map (Paired.mapP pr fun j v ⟨_,a,ea,l,wl,e1,e3,e4⟩=>⟨l,wl,e1,e3,?_⟩)
    rw [List.getD_eq_getElem?_getD,ea]
    exact e4
theorem zgz {a b:Nat}:([a] < [b]) ↔ a < b:=by
 rw [List.cons_lt_cons_iff]
 simp
theorem le_a (c:Nat):(!decide ((⟨#[c]⟩:Str).cps.toList < (Str.ofString "a").cps.toList))=decide (97<=c):=by
 have e:(Str.ofString "a").cps.toList = [97]:=by decide +kernel
 rw [e]
 show (!decide ([c] < [97]))=_
 rw [Bool.eq_iff_iff]
 simp only [Bool.not_eq_true',decide_eq_false_iff_not,decide_eq_true_eq,zgz]
 omega
theorem le_z (c:Nat):(!decide ((Str.ofString "z").cps.toList < (⟨#[c]⟩:Str).cps.toList))=decide (c<=122):=by
 have e:(Str.ofString "z").cps.toList = [122]:=by decide +kernel
 rw [e]
 show (!decide ([122] < [c]))=_
 rw [Bool.eq_iff_iff]
 simp only [Bool.not_eq_true',decide_eq_false_iff_not,decide_eq_true_eq,zgz]
 omega
noncomputable def sp_small:Sp:=fun vs H Q _=>∃ c:Nat,vs = [sgn c]/\Q (.bl (small c)) H
theorem zbm:FnScope ["sign"] ["sign"] (defScope s_is_small_letter):=⟨rfl,rfl,rfl,by decide +kernel,rfl,by decide +kernel,by decide +kernel⟩
theorem ok_small (D:DefAt K mg "is_small_letter" s_is_small_letter) (T:Bn mg):Callee P w K mg base "is_small_letter" 1 ["sign"] sp_small:=by
 refine D.callee zbm (fun _ _ _ _ _ _=>ln1 fun _=>rfl) (fun vs H Q E h => ?_) (fun f cdv A outer s H vs Q E hr h => ?_)
 ·obtain ⟨c,rfl,_⟩:=h
  rfl
 ·obtain ⟨c,rfl,q⟩:=h
  have S:=zbm
  refine ⟨_,zaf (zaj (zfj zd4 zd4 (zap) (pv 0) (zap))),?_⟩
  refine ⟨_,rfl,_,_,rfl,rfl,_,rfl,?_⟩
  rw [le_a]
  have q':Q (.bl (decide (97<=c) && decide (c<=122))) H:=q
  cases e:decide (97<=c) with
  | false =>
   rw [if_neg Bool.false_ne_true]
   rw [e] at q'
   exact q'
  | true =>
   rw [if_pos rfl]
   refine ⟨_,_,rfl,rfl,?_⟩
   rw [le_z]
   rw [e] at q'
   exact q'
noncomputable def sp_name:Sp:=fun vs H Q _=>∃ x:Str,vs = [.str x]/\x.length<=sizeLine/\∀ H',Same H H'->Q (.bl (isName x)) H'
theorem zde:FnScope ["text"] ["text"] (defScope s_is_name):=⟨rfl,rfl,rfl,by decide +kernel,rfl,by decide +kernel,by decide +kernel⟩
theorem ok_name (D:DefAt K mg "is_name" s_is_name) (T:Bn mg) (V_MOST_NAME:∃ t,mg "MOST_NAME" = some (.int 6 t)) (C_is_small_letter:Callee P w K mg base "is_small_letter" 1 ["sign"] sp_small):Callee P w K mg base "is_name" 2 ["text"] sp_name:=by
 refine D.callee zde (fun _ _ _ _ _ _=>ln1 fun _=>rfl) (fun vs H Q E h => ?_) (fun f cdv A outer s H vs Q E hr h => ?_)
 ·obtain ⟨c,rfl,_⟩:=h
  rfl
 ·obtain ⟨x,rfl,hx,q⟩:=h
  have S:=zde
  refine ⟨_,zad (zaG (zbp (zdv zd5 zd5 (zac) (zah call_len_str rfl T.n_len PySem.boot_len (zaa (pv 0) zab)) (zb0 rfl V_MOST_NAME)))
   (zaf (zaj (zbI)))
   (zan))
  (zaf (zaj (zah (zdN rfl) rfl T.n_all boot_all (zaa (zaU (own := ["sign"]) (caps := []) rfl ⟨rfl,rfl,rfl,rfl,trivial⟩ (zgt (pv 0)) (fun _ _ _ _ _ _=>zai (i:=0) (zaM (by decide +kernel)) rfl (Or.inl rfl)) (fun _ _ _ _ _ _=>za8) (fun _ _ _ _ _ _=>zaD C_is_small_letter (hr.mono (by decide)) rfl (zaa (pv 0) zab))) zab)))),?_⟩
  have fin:∀ H',Same H H'->(decide (1<=x.length) && decide (x.length<=6))=false->Q (.bl false) H':=fun H' s' e=>by
   have:=q H' s'
   unfold isName at this
   rw [e] at this
   exact this
  refine ⟨_,rfl,_,rfl,hx,_,_,rfl,rfl,_,rfl,?_⟩
  refine ite2 (fun h1 => ?_) (fun h1 => ?_)
  ·refine ⟨_,_,rfl,rfl,_,rfl,?_⟩
   refine ite2 (fun h2 => ?_) (fun h2 => ?_)
   ·refine fin H (Same.refl H) ?_
    have:¬ (x.length:Int)<=6:=by simpa using h2
    rw [Bool.and_eq_false_iff]
    exact .inr (decide_eq_false (by omega))
   ·refine ⟨_,rfl,_,rfl,fun D hD => ?_⟩
    refine zbY (capv := []) (L:=x.cps.toList.map sgn) (by rfl) (zeh x) (by rw [List.length_map,zcg]; exact hx) hD ?_ (fun _=>true) (fun v=>match v with | .str y => .bl (small (y.cps.getD 0 0)) | _ => .non) ?_ ?_ ?_
    ·exact fun _ _=>trivial
    ·exact fun v hv H' R s' h=>h H' (Same.refl _)
    ·intro v hv _ H' R s' h
     obtain ⟨c,hc,rfl⟩:=List.mem_map.mp hv
     exact ⟨_,rfl,c,rfl,h H' (Same.refl _)⟩
    ·intro H' s' e
     refine ⟨_,x.cps.toList.map small,rfl,?_,?_⟩
     ·refine SqL.of ?_
      rw [e]
      congr 2
      rw [List.filter_eq_self.mpr (fun _ _=>rfl),List.map_map,List.map_map]
      rfl
     ·have:=q H' s'
      unfold isName at this
      have h3:¬ ¬ (x.length:Int)<=6:=by simpa using h2
      have h1':(1:Int)<=x.length:=by simpa using h1
      rw [decide_eq_true (show 1<=x.length by omega),decide_eq_true (show x.length<=6 by omega)] at this
      rw [List.all_map]
      exact this
  ·refine ⟨_,rfl,?_⟩
   refine fin H (Same.refl H) ?_
   have h1':¬ (1:Int)<=x.length:=by simpa using h1
   rw [Bool.and_eq_false_iff]
   exact .inl (decide_eq_false (by omega))
noncomputable def sp_teeth (K:W.Frag):Sp:=fun vs H Q _=>∃ (a:Addr) (ts:List Int),vs = [.ref a]/\SqL K H a (ts.map V.int)/\ts.length<=1000/\∀ H',Same H H'->Q (.bl (areTeeth ts)) H'
theorem zcv:FnScope ["teeth"] ["teeth"] (defScope s_are_teeth):=⟨rfl,rfl,rfl,by decide +kernel,rfl,by decide +kernel,by decide +kernel⟩
theorem ok_teeth (D:DefAt K mg "are_teeth" s_are_teeth) (T:Bn mg) (V_MOST_TOOTH:∃ t,mg "MOST_TOOTH" = some (.int 7 t)):Callee P w K mg base "are_teeth" 1 ["teeth"] (sp_teeth K):=by
 refine D.callee zcv (fun _ _ _ _ _ _=>ln1 fun _=>rfl) (fun vs H Q E h => ?_) (fun f cdv A outer s H vs Q E hr h => ?_)
 ·obtain ⟨a,ts,rfl,_⟩:=h
  rfl
 ·obtain ⟨a,ts,rfl,ha,hl,q⟩:=h
  have S:=zcv
  unfold areTeeth at q
  refine ⟨_,zad (zaG (zao zbM (zac) (pv 0) (by with_unfolding_all rfl))
   (zaf (zaj (zbI)))
   (zan))
  (zad (zaG (zao zeB (zah call_lenS rfl T.n_len PySem.boot_len (zaa (zbw (call_set1 rfl) rfl T.n_set boot_set (zaa (pv 0) zab)) zab)) (zah zau rfl T.n_len PySem.boot_len (zaa (pv 0) zab)) (zat _))
   (zaf (zaj (zbI)))
   (zan))
  (zaf (zaj (zah (zdN rfl) rfl T.n_all boot_all (zaa (zaU (own := ["tooth"]) (caps := []) rfl ⟨rfl,rfl,rfl,rfl,trivial⟩ (zar (pv 0)) (fun _ _ _ _ _ _=>zai (i:=0) (zaM (by decide +kernel)) rfl (Or.inl rfl)) (fun _ _ _ _ _ _=>za8) (fun _ _ _ _ _ _=>zfj zd5 zd5 (zac) (pv 0) (zb0 rfl V_MOST_TOOTH))) zab))))),?_⟩
  refine ⟨_,rfl,_,_,rfl,.inl ha,rfl,zgV ts,_,rfl,?_⟩
  rw [if_pos rfl,in_zero]
  refine ite2 (fun hc => ?_) (fun hc => ?_)
  ·have h0:decide (0∈ts)=false:=by simpa using hc
   rw [h0] at q
   exact q H (Same.refl H)
  ·have h0:decide (0∈ts)=true:=by simpa using hc
   rw [h0,Bool.true_and] at q
   refine ⟨_,rfl,_,ts,rfl,ha,?_,fun p np => ?_⟩
   ·show ts.length + 1 < 4096
    omega
   have s1:Same H (upd H p (.set (fun k=>(firstMet (fun i=>ts.getD i 0) ts.length).any (· == k)) (many ts))):=Same.new np
   refine ⟨_,_,_,rfl,upd_same,_,rfl,_,_,rfl,.inl (s1.seq ha),rfl,_,rfl,?_⟩
   rw [List.length_map]
   refine ite2 (fun hm => ?_) (fun hm => ?_)
   ·have h1:¬ many ts=ts.length:=fun z=>by simp [z] at hm
    rw [decide_eq_false h1,Bool.false_and] at q
    exact q _ s1
   ·have h1:many ts=ts.length:=by
     have:(many ts:Int)=(ts.length:Int):=by simpa using hm
     omega
    rw [decide_eq_true h1,Bool.true_and] at q
    refine ⟨_,rfl,_,rfl,⟨_,s1.seq ha⟩,fun D hD => ?_⟩
    refine zbY (capv := []) (L:=ts.map V.int) (by rfl) (zak K a (ts.map V.int)) (by rw [List.length_map]; exact big hl) hD ?_ (fun _=>true) (fun v=>match v with | .int t => .bl (inR t) | _ => .non) ?_ ?_ ?_
    ·exact fun H' s'=>(s1.trans s').seq ha
    ·exact fun v hv H' R s' h=>h H' (Same.refl _)
    ·intro v hv _ H' R s' h
     obtain ⟨t,ht,rfl⟩:=List.mem_map.mp hv
     have h:=h H' (Same.refl _)
     have h:R (.bl (decide (0<=t) && decide (t<=7))) H':=h
     refine ⟨_,rfl,_,_,rfl,rfl,_,rfl,?_⟩
     cases e:decide (0<=t) with
     | false =>
      rw [e] at h
      exact iteF h
     | true =>
      rw [e] at h
      exact iteT ⟨_,_,rfl,rfl,h⟩
    ·intro H' s' e
     refine ⟨_,ts.map inR,rfl,?_,?_⟩
     ·refine SqL.of ?_
      rw [e]
      congr 2
      rw [List.filter_eq_self.mpr (fun _ _=>rfl),List.map_map,List.map_map]
      rfl
     ·have:=q H' (s1.trans s')
      rw [List.all_map]
      exact this
theorem zbx {d l:V}:([("combs",d),("past",l)]:List (Str×V)).lookup (Str.ofString "combs")=some d:=rfl
theorem zdD {d l:V}:([("combs",d),("past",l)]:List (Str×V)).lookup (Str.ofString "past")=some l:=rfl
theorem putF_combs {y d l:V}:putF (Str.ofString "combs") y [("combs",d),("past",l)] = [(Str.ofString "combs",y),(Str.ofString "past",l)]:=by
 unfold putF
 rw [if_pos rfl]
theorem putF_new {y:V}:putF (Str.ofString "combs") y [] = [(Str.ofString "combs",y)]:=rfl
theorem putF_past {y d:V}:putF (Str.ofString "past") y [("combs",d)] = [(Str.ofString "combs",d),(Str.ofString "past",y)]:=by
 have h:¬ (Str.ofString "combs" = Str.ofString "past"):=by decide +kernel
 unfold putF
 rw [if_neg h]
 rfl
theorem two_len {a b:Str×V} : [a,b].length < 1000:=show 2 < 1000 by decide
noncomputable def sp_check (ea:Nat->Addr) (C:Addr):Sp:=fun vs H Q E=>∃ b l G cs past x,vs = [.ref b,.str x]/\Bk C G H b l cs past/\(if (cGet cs x).isSome=true then Q .non H else E (.ref (ea 4)) none H)
theorem zbo:FnScope ["self","name"] ["self","name"] (defScope s_Book_check_comb):=⟨rfl,rfl,rfl,by decide +kernel,rfl,by decide +kernel,by decide +kernel⟩
theorem ok_check {ea:Nat->Addr} {C:Addr} (D:MethAt K C "Book" "check_comb" s_Book_check_comb) (T:Bn mg) (BA:BookAt K C) (O_NoComb:Err K mg "NoComb" (ea 4)):Method P w K mg base C "check_comb" (CX1 P w) 1 ["self","name"] (sp_check ea C):=by
 refine D.meth1 zbo (fun _ _ _ _ _ _=>ln2 fun _ _=>rfl) (fun vs H Q E h => ?_) (fun f cdv A outer s H vs Q E hr h => ?_)
 ·obtain ⟨b,l,G,cs,past,x,rfl,_⟩:=h
  rfl
 ·obtain ⟨b,l,G,cs,past,x,rfl,B,q⟩:=h
  have S:=zbo
  have hu:=zcx hr
  obtain ⟨dx,d,hb,gd,kvs,hd,kr⟩:=B.ins
  refine ⟨_,zaf (zaG (zdZ (zd2 hu (pv 1) (zbL (pv 0) rfl)))
   (zaf (zbg O_NoComb rfl (zaa (zap) zab)))
   (zan)),?_⟩
  refine ⟨_,rfl,_,rfl,_,_,_,_,_,rfl,hb,BA.cls,BA.nc,zbx,d,_,rfl,DGet.k (k:=Sum.inr x) hd,_,rfl,?_⟩
  rw [kr.some]
  cases e:(cGet cs x).isSome with
  | false =>
   rw [e] at q
   exact iteT ⟨bigr rfl,q⟩
  | true =>
   rw [e] at q
   exact iteF q
noncomputable def sp_do (ea:Nat->Addr) (C:Addr):Sp:=fun vs H Q E=>∃ b l G cs past d D cs',vs = [.ref b,.ref d]/\Bk C G H b l cs past/\DictR D H d cs'/\Good cs'/\(∀ x,D x->x≠b/\x≠l/\H x≠none) /\
 (if 300<=past.length then E (.ref (ea 9)) none H else ∀ H',(∀ a,a≠b->a≠l->H' a=H a)->Bk C (fun a=>G a\/D a) H' b l cs' (past ++ [cs])->Q (.int ((past.length:Int) + 1)) H')
theorem zbK:FnScope ["self","combs"] ["self","combs"] (defScope s_Book_do_deed):=⟨rfl,rfl,rfl,by decide +kernel,rfl,by decide +kernel,by decide +kernel⟩
theorem ok_do {ea:Nat->Addr} {C:Addr} (D:MethAt K C "Book" "do_deed" s_Book_do_deed) (T:Bn mg) (BA:BookAt K C) (V_MOST_DEEDS:∃ t,mg "MOST_DEEDS" = some (.int 300 t)) (O_DeedsFull:Err K mg "DeedsFull" (ea 9)):Method P w K mg base C "do_deed" (CX1 P w) 1 ["self","combs"] (sp_do ea C):=by
 refine D.meth1 zbK (fun _ _ _ _ _ _=>ln2 fun _ _=>rfl) (fun vs H Q E h => ?_) (fun f cdv A outer s H vs Q E hr h => ?_)
 ·obtain ⟨b,l,G,cs,past,d,D,cs',rfl,_⟩:=h
  rfl
 ·obtain ⟨b,l,G,cs,past,d1,Dd,cs',rfl,B,dr,gd',nD,q⟩:=h
  have S:=zbK
  have hu:=zcx hr
  obtain ⟨dx,d,hb,dr0⟩:=B.ins
  obtain ⟨vs,hl,pr⟩:=B.lst
  have hlen:=pr.length
  have hbl:b≠l:=zgS hb hl (by intro z; cases z)
  refine ⟨_,zad (zaG (zao zgR (zah zau rfl T.n_len PySem.boot_len (zaa (zbL (pv 0) rfl) zab)) (zb0 rfl V_MOST_DEEDS) (zat _))
   (zaf (zbg O_DeedsFull rfl (zaa (zap) zab)))
   (zan))
  (zad (zaI (zcl PySem.F.plainAttrs_list PySem.F.slot_list_append PySem.F.type_list_append zaH (zbL (pv 0) rfl) (zaa (zbL (pv 0) rfl) zab)))
  (zad (zfP (pv 0) (pv 1) rfl)
  (zaf (zaj (zah zau rfl T.n_len PySem.boot_len (zaa (zbL (pv 0) rfl) zab)))))),?_⟩
  refine ⟨_,rfl,_,_,_,_,_,rfl,hb,BA.cls,BA.np,zdD,_,_,rfl,.inl (SqL.of hl),_,_,rfl,rfl,_,rfl,?_⟩
  refine ite2 (fun hc => ?_) (fun hc => ?_)
  ·have h300:300<=past.length:=by
    have:(300:Int)<=(vs.length:Int):=by simpa using hc
    omega
   rw [if_pos h300] at q
   exact ⟨bigr rfl,q⟩
  ·have h300:¬ 300<=past.length:=by
    have:¬ (300:Int)<=(vs.length:Int):=by simpa using hc
    omega
   rw [if_neg h300] at q
   refine ⟨_,rfl,_,_,_,_,_,rfl,hb,BA.cls,BA.np,zdD,.inl ⟨rfl,_,SqL.of hl⟩,_,rfl,_,_,_,_,_,rfl,hb,BA.cls,BA.nc,zbx,_,_,_,rfl,rfl,hl,?_,?_⟩
   ·exact Nat.lt_of_lt_of_le (by omega:vs.length < 1000) zaR
   have hb1:upd H l (.lst (vs ++ [.ref d])) b=some (.ins C dx [("combs",.ref d),("past",.ref l)]):=by rw [zag hbl]; exact hb
   refine ⟨_,rfl,_,rfl,_,_,_,_,rfl,hb1,BA.cls,BA.nc,two_len,?_⟩
   rw [putF_combs]
   have hb2:upd (upd H l (.lst (vs ++ [.ref d]))) b (.ins C dx [("combs",.ref d1),("past",.ref l)]) b=some (.ins C dx [("combs",.ref d1),("past",.ref l)]):=upd_same
   have hl2:upd (upd H l (.lst (vs ++ [.ref d]))) b (.ins C dx [("combs",.ref d1),("past",.ref l)]) l=some (.lst (vs ++ [.ref d])):=by rw [zag (Ne.symm hbl),upd_same]
   have off:∀ a,a≠b->a≠l->upd (upd H l (.lst (vs ++ [.ref d]))) b (.ins C dx [("combs",.ref d1),("past",.ref l)]) a=H a:=fun a n1 n2=>by rw [zag n1,zag n2]
   generalize upd (upd H l (.lst (vs ++ [.ref d]))) b (.ins C dx [("combs",.ref d1),("past",.ref l)])=H2 at hb2 hl2 off
   refine ⟨_,rfl,_,_,_,_,_,rfl,hb2,BA.cls,BA.np,zdD,_,_,rfl,.inl (SqL.of hl2),?_⟩
   rw [List.length_append,List.length_singleton,hlen]
   have sG:∀ a o,G a->H a=some o->H2 a=some o:=fun a o g e=>(off a (fun z=>B.nb (z ▸ g)) (fun z=>B.nl (z ▸ g))).trans e
   have sD:∀ a o,Dd a->H a=some o->H2 a=some o:=fun a o g e=>(off a (nD a g).1 (nD a g).2.1).trans e
   refine q H2 off ⟨?_,?_,?_,⟨dx,d1,hb2,dr.mono sD fun _ g => .inr g⟩,⟨_,hl2,?_⟩,gd',?_,?_⟩
   ·rintro x (g | g)
    ·rw [off x (fun z=>B.nb (z ▸ g)) (fun z=>B.nl (z ▸ g))]; exact B.live x g
    ·rw [off x (nD x g).1 (nD x g).2.1]; exact (nD x g).2.2
   ·rintro (g | g)
    ·exact B.nb g
    ·exact (nD b g).1 rfl
   ·rintro (g | g)
    ·exact B.nl g
    ·exact (nD l g).2.1 rfl
   ·exact Paired.snoc (Paired.mono (fun _ _ ⟨d,e,r⟩=>⟨d,e,r.mono sG fun _ g => .inl g⟩) pr) ⟨d,rfl,dr0.mono sG fun _ g => .inl g⟩
   ·intro p hp
    rcases List.mem_append.mp hp with z | z
    ·exact B.goods p z
    ·rw [List.mem_singleton.mp z]; exact B.good
   ·rw [List.length_append,List.length_singleton]; omega
noncomputable def sp_deeds (C:Addr):Sp:=fun vs H Q _=>∃ b l G cs past,vs = [.ref b]/\Bk C G H b l cs past/\Q (.int (past.length:Int)) H
theorem zcb:FnScope ["self"] ["self"] (defScope s_Book_deeds):=⟨rfl,rfl,rfl,by decide +kernel,rfl,by decide +kernel,by decide +kernel⟩
theorem ok_deeds {C:Addr} (D:MethAt K C "Book" "deeds" s_Book_deeds) (T:Bn mg) (BA:BookAt K C):Method P w K mg base C "deeds" CX0 1 ["self"] (sp_deeds C):=by
 refine D.meth0 zcb (fun _ _ _ _ _ _=>ln1 fun _=>rfl) (fun vs H Q E h => ?_) (fun f cdv A outer s H vs Q E hr h => ?_)
 ·obtain ⟨b,l,G,cs,past,rfl,_⟩:=h
  rfl
 ·obtain ⟨b,l,G,cs,past,rfl,B,q⟩:=h
  have S:=zcb
  obtain ⟨dx,d,hb,dr0⟩:=B.ins
  obtain ⟨vs,hl,pr⟩:=B.lst
  refine ⟨_,zaf (zaj (zah zau rfl T.n_len PySem.boot_len (zaa (zbL (pv 0) rfl) zab))),?_⟩
  refine ⟨_,rfl,_,_,_,_,_,rfl,hb,BA.cls,BA.np,zdD,_,_,rfl,.inl (SqL.of hl),?_⟩
  rw [pr.length]
  exact q
noncomputable def sp_names (C:Addr):Sp:=fun vs H Q _=>∃ b l G cs past,vs = [.ref b]/\Bk C G H b l cs past/\∀ p (nm:List Str),H p=none->nm.Perm (cs.map (·.1))->sortedS nm=true->Q (.ref p) (upd H p (.lst (nm.map V.str)))
theorem zca:FnScope ["self"] ["self"] (defScope s_Book_names):=⟨rfl,rfl,rfl,by decide +kernel,rfl,by decide +kernel,by decide +kernel⟩
theorem ok_names {C:Addr} (D:MethAt K C "Book" "names" s_Book_names) (T:Bn mg) (BA:BookAt K C):Method P w K mg base C "names" CX0 1 ["self"] (sp_names C):=by
 refine D.meth0 zca (fun _ _ _ _ _ _=>ln1 fun _=>rfl) (fun vs H Q E h => ?_) (fun f cdv A outer s H vs Q E hr h => ?_)
 ·obtain ⟨b,l,G,cs,past,rfl,_⟩:=h
  rfl
 ·obtain ⟨b,l,G,cs,past,rfl,B,q⟩:=h
  have S:=zca
  obtain ⟨dx,d,hb,gd,kvs,hd,kr⟩:=B.ins
  refine ⟨_,zaf (zaj (zah (call_sortedD rfl) rfl T.n_sorted boot_sorted (zaa (zbL (pv 0) rfl) zab))),?_⟩
  refine ⟨_,rfl,_,_,_,_,_,rfl,hb,BA.cls,BA.nc,zbx,d,kvs,cs.map (·.1),rfl,.inl hd,kr.keys,?_,q⟩
  rw [List.length_map]
  have:=B.good.len
  omega
noncomputable def sp_bteeth (ea:Nat->Addr) (C:Addr):Sp:=fun vs H Q E=>∃ b l G cs past x,vs = [.ref b,.str x]/\Bk C G H b l cs past/\(match cGet cs x with | some ts=>∀ p,H p=none->Q (.ref p) (upd H p (.lst (ts.map V.int))) | none=>E (.ref (ea 4)) none H)
theorem zb9:FnScope ["self","name"] ["self","name"] (defScope s_Book_teeth):=⟨rfl,rfl,rfl,by decide +kernel,rfl,by decide +kernel,by decide +kernel⟩
theorem ok_bteeth {ea:Nat->Addr} {C:Addr} (D:MethAt K C "Book" "teeth" s_Book_teeth) (T:Bn mg) (BA:BookAt K C) (M_check_comb:Method P w K mg base C "check_comb" (CX1 P w) 1 ["self","name"] (sp_check ea C)):Method P w K mg base C "teeth" (CX1 P w) 2 ["self","name"] (sp_bteeth ea C):=by
 refine D.meth1 zb9 (fun _ _ _ _ _ _=>ln2 fun _ _=>rfl) (fun vs H Q E h => ?_) (fun f cdv A outer s H vs Q E hr h => ?_)
 ·obtain ⟨b,l,G,cs,past,x,rfl,_⟩:=h
  rfl
 ·obtain ⟨b,l,G,cs,past,x,rfl,B,q⟩:=h
  have S:=zb9
  have hu:=zcx hr
  have B_cls:=BA.cls
  obtain ⟨dx,d,hb,gd,kvs,hd,kr⟩:=id B.ins
  refine ⟨_,zad (zaI (zeA (pv 0) B_cls M_check_comb (hr.mono (by decide)) (by first | exact zc1 | exact zaq | exact zbh | exact zaA) (zaa (pv 1) zab)))
  (zaf (zaj (zbw zbO rfl T.n_list boot_list (zaa (zck hu (zbL (pv 0) rfl) (pv 1) (fun _ _=>rfl)) zab)))),?_⟩
  refine ⟨_,rfl,_,_,_,rfl,hb,rfl,_,rfl,b,l,G,cs,past,x,rfl,B,?_⟩
  rcases kr.val (x:=x) with ⟨e1,e2⟩ | ⟨ts,t,e1,e2,e3,e4⟩
  ·rw [e1] at q ⊢
   exact q
  ·rw [e1] at q ⊢
   refine iteT ?_
   refine ⟨_,rfl,_,_,_,_,_,rfl,hb,BA.cls,BA.nc,zbx,_,rfl,d,_,rfl,?_,_,_,rfl,.inl (SqL.of e3),q⟩
   rw [<- e2]
   exact DGet.k (k:=Sum.inr x) hd
noncomputable def sp_init (C:Addr):Sp:=fun vs H Q _=>∃ b dx,vs = [.ref b]/\H b=some (.ins C dx [])/\∀ H' l d,Mv b b (fun _=>False) (fun a=>a=d) H H'->H l=none->H d=none->Bk C (fun a=>a=d) H' b l [] []->Q .non H'
theorem zbG:FnScope ["self"] ["self"] (defScope s_Book___init__):=⟨rfl,rfl,rfl,by decide +kernel,rfl,by decide +kernel,by decide +kernel⟩
theorem ok_init {C:Addr} {f:Addr} {fd:FuncData} (F:Fun K "__init__" "Book.__init__" s_Book___init__ f fd) (T:Bn mg) (BA:BookAt K C):FnOk P w K mg base CX0 1 f fd ["self"] (sp_init C):=by
 refine F.ok zbG (fun vs H Q E h => ?_) (fun cdv A outer s H vs Q E hr h => ?_)
 ·obtain ⟨b,dx,rfl,_⟩:=h
  rfl
 ·obtain ⟨b,dx,rfl,hb,q⟩:=h
  have S:=zbG
  refine ⟨_,zad (zfP (pv 0) (pe_dnewK) rfl)
  (zaf (zfP (pv 0) (zaN (zab)) rfl)),?_⟩
  refine fun d nd => ?_
  have hbd:b≠d:=zal hb nd
  have hb1:upd H d (.dK []) b=some (.ins C dx []):=by rw [zag hbd]; exact hb
  refine ⟨_,rfl,_,_,_,_,rfl,hb1,BA.cls,BA.nc,by decide,?_⟩
  rw [putF_new]
  refine ⟨bigr rfl,fun l nl => ?_⟩
  have hbl:b≠l:=fun z=>by rw [<- z,upd_same] at nl; cases nl
  have nl1:upd H d (.dK []) l=none:=by rw [zag (Ne.symm hbl)] at nl; exact nl
  have hdl:d≠l:=fun z=>by rw [<- z,upd_same] at nl1; cases nl1
  have hln:H l=none:=by rw [zag (Ne.symm hdl)] at nl1; exact nl1
  have hb2:upd (upd (upd H d (.dK [])) b (.ins C dx [(Str.ofString "combs",V.ref d)])) l (.lst []) b=some (.ins C dx [("combs",.ref d)]):=by rw [zag hbl,upd_same]
  refine ⟨_,rfl,_,_,_,_,rfl,hb2,BA.cls,BA.np,(show 1 < 1000 by decide),?_⟩
  rw [putF_past]
  have hb3:upd (upd (upd (upd H d (.dK [])) b (.ins C dx [(Str.ofString "combs",V.ref d)])) l (.lst [])) b (.ins C dx [(Str.ofString "combs",V.ref d),(Str.ofString "past",V.ref l)]) b=some (.ins C dx [("combs",.ref d),("past",.ref l)]):=upd_same
  have hd3:upd (upd (upd (upd H d (.dK [])) b (.ins C dx [(Str.ofString "combs",V.ref d)])) l (.lst [])) b (.ins C dx [(Str.ofString "combs",V.ref d),(Str.ofString "past",V.ref l)]) d=some (.dK []):=by
   rw [zag (Ne.symm hbd),zag hdl,zag (Ne.symm hbd),upd_same]
  have hl3:upd (upd (upd (upd H d (.dK [])) b (.ins C dx [(Str.ofString "combs",V.ref d)])) l (.lst [])) b (.ins C dx [(Str.ofString "combs",V.ref d),(Str.ofString "past",V.ref l)]) l=some (.lst []):=by
   rw [zag (Ne.symm hbl),upd_same]
  have off:∀ a o,H a=some o->a≠b->upd (upd (upd (upd H d (.dK [])) b (.ins C dx [(Str.ofString "combs",V.ref d)])) l (.lst [])) b (.ins C dx [(Str.ofString "combs",V.ref d),(Str.ofString "past",V.ref l)]) a=some o:=fun a o e n=>by
   rw [zag n,zag (zal e hln),zag n,zag (zal e nd)]; exact e
  generalize upd (upd (upd (upd H d (.dK [])) b (.ins C dx [(Str.ofString "combs",V.ref d)])) l (.lst [])) b (.ins C dx [(Str.ofString "combs",V.ref d),(Str.ofString "past",V.ref l)])=H3 at hb3 hd3 hl3 off
  refine q H3 l d ⟨fun a o e n _=>off a o e n,fun a h => ?_,fun a g => .inr (by rw [g]; exact nd)⟩ hln nd ⟨fun x g => ?_,hbd,fun z=>hdl z.symm,⟨dx,d,hb3,rfl,[],hd3,.nil⟩,⟨[],hl3,.nil⟩,good_nil,by simp,by decide⟩
  ·by_cases z:a=b
   ·rw [z,hb3]; simp
   ·cases e:H a with
    | none=>exact absurd e h
    | some o=>rw [off a o e z]; simp
  ·rw [show x=d from g,hd3]; simp
noncomputable def sp_set (ea:Nat->Addr) (C:Addr):Sp:=fun vs H Q E=>∃ b l G cs past x a ts,vs = [.ref b,.str x,.ref a]/\Bk C G H b l cs past/\SqL K H a (ts.map V.int)/\areTeeth ts=true/\isName x=true/\(cs.length < 8\/(cGet cs x).isSome=true)/\Deed ea C G H b l cs past Q E (full past (cPut cs x (canon ts)))
theorem zbF:FnScope ["self","name","teeth","combs"] ["self","name","teeth"] (defScope s_Book_set_comb):=⟨rfl,rfl,rfl,by decide +kernel,rfl,by decide +kernel,by decide +kernel⟩
theorem ok_set {ea:Nat->Addr} {C:Addr} (D:MethAt K C "Book" "set_comb" s_Book_set_comb) (T:Bn mg) (BA:BookAt K C) (M_do_deed:Method P w K mg base C "do_deed" (CX1 P w) 1 ["self","combs"] (sp_do ea C)):Method P w K mg base C "set_comb" (CX1 P w) 2 ["self","name","teeth"] (sp_set (K:=K) ea C):=by
 refine D.meth1 zbF (fun _ _ _ _ _ _=>ln3 fun _ _ _=>rfl) (fun vs H Q E h => ?_) (fun f cdv A outer s H vs Q E hr h => ?_)
 ·obtain ⟨b,l,G,cs,past,x,a,ts,rfl,_⟩:=h
  rfl
 ·obtain ⟨b,l,G,cs,past,x,a,ts,rfl,B,ha,ht,hx,hn,q⟩:=h
  have S:=zbF
  have hu:=zcx hr
  have B_cls:=BA.cls
  obtain ⟨t0,tn,tr⟩:=teeth_iff.mp ht
  obtain ⟨dx,d,hb,gd,kvs,hd,kr⟩:=id B.ins
  refine ⟨_,zad (zam (i:=3) S.nd rfl (Or.inl rfl) (zbw call_dictD rfl T.n_dict boot_dict (zaa (zbL (pv 0) rfl) zab)))
  (zad (zdw hu (pv 3) (pv 1) (zah zcw rfl T.n_sorted boot_sorted (zaa (pv 2) zab)) rfl)
  (zaf (zaj (zeA (pv 0) B_cls M_do_deed (hr.mono (by decide)) (by first | exact zc1 | exact zaq | exact zbh | exact zaA) (zaa (pv 3) zab))))),?_⟩
  refine ⟨_,rfl,_,_,_,_,_,rfl,hb,BA.cls,BA.nc,zbx,d,kvs,rfl,.inl hd,fun p np => ?_⟩
  have s1:Same H (upd H p (.dK kvs)):=Same.new np
  refine ⟨_,rfl,a,ts,rfl,s1.seq ha,?_,fun r ns nr hp hs => ?_⟩
  ·have:=zcG tn tr
   omega
  have hc:=zdL hp hs tn tr
  subst hc
  have npr:p≠r:=fun z=>by rw [<- z,upd_same] at nr; cases nr
  have hr0:H r=none:=s1.free nr
  have s2:Same H (upd (upd H p (.dK kvs)) r (.lst ((canon ts).map V.int))):=s1.put hr0
  have hp2:upd (upd H p (.dK kvs)) r (.lst ((canon ts).map V.int)) p=some (.dK kvs):=by rw [zag npr,upd_same]
  have hkl:kvs.length < sizeLine:=by
   have:=kr.length
   have:=B.good.len
   exact Nat.lt_of_lt_of_le (by omega:kvs.length < 1000) zaR
  refine ⟨_,rfl,_,rfl,p,_,rfl,DPut.k (k:=Sum.inr x) hp2 hkl,?_⟩
  have s3:Same H (upd (upd (upd H p (.dK kvs)) r (.lst ((canon ts).map V.int))) p (.dK (putK kvs (Sum.inr x) (.ref r)))):=s2.put np
  have hr3:upd (upd (upd H p (.dK kvs)) r (.lst ((canon ts).map V.int))) p (.dK (putK kvs (Sum.inr x) (.ref r))) r=some (.lst ((canon ts).map V.int)):=by rw [zag (Ne.symm npr),upd_same]
  have hp3:upd (upd (upd H p (.dK kvs)) r (.lst ((canon ts).map V.int))) p (.dK (putK kvs (Sum.inr x) (.ref r))) p=some (.dK (putK kvs (Sum.inr x) (.ref r))):=upd_same
  generalize upd (upd (upd H p (.dK kvs)) r (.lst ((canon ts).map V.int))) p (.dK (putK kvs (Sum.inr x) (.ref r)))=H3 at s3 hr3 hp3
  have B3:=B.same s3
  obtain ⟨lb,ll⟩:=B.liveB
  refine ⟨_,rfl,b,dx,_,rfl,s3 _ _ hb,rfl,_,rfl,b,l,G,cs,past,p,fun a=>G a\/a=p\/a=r,cPut cs x (canon ts),rfl,B3,⟨.inr (.inl rfl),_,hp3,?_⟩,B.good.put hx (gt_canon t0) hn,?_,?_⟩
  ·exact (kr.mono (fun a o _ e=>s3 a o e) fun _ g => .inl g).put hr3 (.inr (.inr rfl))
  ·rintro y (g | g | g)
   ·exact ⟨fun z=>B.nb (z ▸ g),fun z=>B.nl (z ▸ g),B3.live y g⟩
   ·subst g
    exact ⟨fun z=>lb (z ▸ np),fun z=>ll (z ▸ np),by rw [hp3]; simp⟩
   ·subst g
    exact ⟨fun z=>lb (z ▸ hr0),fun z=>ll (z ▸ hr0),by rw [hr3]; simp⟩
  ·unfold full at q
   by_cases h3:300<=past.length
   ·rw [if_pos h3] at q ⊢
    exact q H3 s3
   ·rw [if_neg h3] at q ⊢
    intro H4 off B4
    refine q H4 _ ⟨fun a o e n1 n2=>(off a n1 n2).trans (s3 a o e),fun a h => ?_,fun a g => ?_⟩ B4
    ·obtain ⟨lb4,ll4⟩:=B4.liveB
     by_cases z:a=b
     ·rw [z]; exact lb4
     ·by_cases z2:a=l
      ·rw [z2]; exact ll4
      ·rw [off a z z2]; exact zd9 s3 a h
    ·rcases g with g | g | g | g
     ·exact .inl g
     ·exact .inl g
     ·rw [g]; exact .inr np
     ·rw [g]; exact .inr hr0
noncomputable def sp_put (ea:Nat->Addr) (C:Addr):Sp:=fun vs H Q E=>∃ b l G cs past x a ts,vs = [.ref b,.str x,.ref a]/\Bk C G H b l cs past/\SqL K H a (ts.map V.int)/\x.length<=sizeLine/\ts.length<=1000/\Deed ea C G H b l cs past Q E (putD cs past x ts)
theorem zcI:FnScope ["self","name","teeth"] ["self","name","teeth"] (defScope s_Book_put):=⟨rfl,rfl,rfl,by decide +kernel,rfl,by decide +kernel,by decide +kernel⟩
theorem ok_put {ea:Nat->Addr} {C:Addr} (D:MethAt K C "Book" "put" s_Book_put) (T:Bn mg) (BA:BookAt K C) (V_MOST_COMBS:∃ t,mg "MOST_COMBS" = some (.int 8 t)) (O_BadName:Err K mg "BadName" (ea 0)) (O_BadTeeth:Err K mg "BadTeeth" (ea 1)) (O_NameTaken:Err K mg "NameTaken" (ea 2)) (O_BookFull:Err K mg "BookFull" (ea 3))
  (C_is_name:Callee P w K mg base "is_name" 2 ["text"] sp_name) (C_are_teeth:Callee P w K mg base "are_teeth" 1 ["teeth"] (sp_teeth K)) (M_set_comb:Method P w K mg base C "set_comb" (CX1 P w) 2 ["self","name","teeth"] (sp_set (K:=K) ea C)):Method P w K mg base C "put" (CX1 P w) 3 ["self","name","teeth"] (sp_put (K:=K) ea C):=by
 refine D.meth1 zcI (fun _ _ _ _ _ _=>ln3 fun _ _ _=>rfl) (fun vs H Q E h => ?_) (fun f cdv A outer s H vs Q E hr h => ?_)
 ·obtain ⟨b,l,G,cs,past,x,a,ts,rfl,_⟩:=h
  rfl
 ·obtain ⟨b,l,G,cs,past,x,a,ts,rfl,B,ha,hxl,htl,q⟩:=h
  have S:=zcI
  have hu:=zcx hr
  have B_cls:=BA.cls
  unfold putD at q
  refine ⟨_,zad (zaG (zbp (zbv (zaD C_is_name (hr.mono (by decide)) rfl (zaa (pv 1) zab))))
   (zaf (zbg O_BadName rfl (zaa (zap) zab)))
   (zan))
  (zad (zaG (zbp (zbv (zaD C_are_teeth (hr.mono (by decide)) rfl (zaa (pv 2) zab))))
   (zaf (zbg O_BadTeeth rfl (zaa (zap) zab)))
   (zan))
  (zad (zaG (zdZ (zfk hu (pv 1) (zbL (pv 0) rfl)))
   (zaf (zbg O_NameTaken rfl (zaa (zap) zab)))
   (zan))
  (zad (zaG (zao zgR (zah call_lenD rfl T.n_len PySem.boot_len (zaa (zbL (pv 0) rfl) zab)) (zb0 rfl V_MOST_COMBS) (zat _))
   (zaf (zbg O_BookFull rfl (zaa (zap) zab)))
   (zan))
  (zaf (zaj (zeA (pv 0) B_cls M_set_comb (hr.mono (by decide)) (by first | exact zc1 | exact zaq | exact zbh | exact zaA) (zaa (pv 1) (zaa (pv 2) zab)))))))),?_⟩
  refine ⟨_,rfl,x,rfl,hxl,fun H1 s1=>⟨_,rfl,?_⟩⟩
  cases e1:isName x with
  | false =>
   rw [e1,if_pos rfl] at q
   exact iteT ⟨bigr rfl,q H1 s1⟩
  | true =>
   rw [e1,if_neg (by decide)] at q
   refine iteF ?_
   refine ⟨_,rfl,a,ts,rfl,s1.seq ha,htl,fun H2 s2=>⟨_,rfl,?_⟩⟩
   have s12:=s1.trans s2
   cases e2:areTeeth ts with
   | false =>
    rw [e2,if_pos rfl] at q
    exact iteT ⟨bigr rfl,q H2 s12⟩
   | true =>
    rw [e2,if_neg (by decide)] at q
    refine iteF ?_
    have B2:=B.same s12
    obtain ⟨dx,d,hb,gd,kvs,hd,kr⟩:=id B2.ins
    refine ⟨_,rfl,_,rfl,_,_,_,_,_,rfl,hb,BA.cls,BA.nc,zbx,d,_,rfl,DGet.k (k:=Sum.inr x) hd,_,rfl,?_⟩
    rw [kr.some]
    cases e3:(cGet cs x).isSome with
    | true =>
     rw [e3,if_pos rfl] at q
     exact iteT ⟨bigr rfl,q H2 s12⟩
    | false =>
     rw [e3,if_neg (by decide)] at q
     refine iteF ?_
     refine ⟨_,rfl,_,_,_,_,_,rfl,hb,BA.cls,BA.nc,zbx,_,_,rfl,hd,_,_,rfl,rfl,_,rfl,?_⟩
     rw [kr.length]
     refine ite2 (fun hc => ?_) (fun hc => ?_)
     ·have h8:8<=cs.length:=by
       have:(8:Int)<=(cs.length:Int):=by simpa using hc
       omega
      rw [if_pos h8] at q
      exact ⟨bigr rfl,q H2 s12⟩
     ·have h8:¬ 8<=cs.length:=by
       have:¬ (8:Int)<=(cs.length:Int):=by simpa using hc
       omega
      rw [if_neg h8] at q
      exact ⟨_,rfl,b,dx,_,rfl,hb,rfl,_,rfl,_,rfl,b,l,G,cs,past,x,a,ts,rfl,B2,s12.seq ha,e2,e1,.inl (by omega),q.from s12⟩
noncomputable def worths:List Int := [1,2,4,8,16,32,64,128]
theorem at_worths {t:Int} (h0:0<=t) (h7:t<=7):atI (worths.map V.int) t=some (.int (pw t)):=by
 have:t=0\/t=1\/t=2\/t=3\/t=4\/t=5\/t=6\/t=7:=by omega
 rcases this with h | h | h | h | h | h | h | h <;> subst h <;> rfl
noncomputable def sp_worth (K:W.Frag):Sp:=fun vs H Q _=>∃ (a:Addr) (ts:List Int),vs = [.ref a]/\SqL K H a (ts.map V.int)/\(∀ t∈ts,0<=t/\t<=7)/\ts.length<=1000/\∀ H',Same H H'->Q (.int (worth ts)) H'
theorem zbW:FnScope ["teeth"] ["teeth"] (defScope s_teeth_worth):=⟨rfl,rfl,rfl,by decide +kernel,rfl,by decide +kernel,by decide +kernel⟩
theorem ok_worth {tw:Addr} (D:DefAt K mg "teeth_worth" s_teeth_worth) (T:Bn mg) (G_TOOTH_WORTH:mg "TOOTH_WORTH" = some (.ref tw)) (HTW:∀ H,SqT K H tw (worths.map V.int)):Callee P w K mg base "teeth_worth" 1 ["teeth"] (sp_worth K):=by
 refine D.callee zbW (fun _ _ _ _ _ _=>ln1 fun _=>rfl) (fun vs H Q E h => ?_) (fun f cdv A outer s H vs Q E hr h => ?_)
 ·obtain ⟨a,ts,rfl,_⟩:=h
  rfl
 ·obtain ⟨a,ts,rfl,ha,hr7,hl,q⟩:=h
  have S:=zbW
  refine ⟨_,zaf (zaj (zah (zeo rfl) rfl T.n_sum boot_sum (zaa (zaU (own := ["tooth"]) (caps := []) rfl ⟨rfl,rfl,rfl,rfl,trivial⟩ (zar (pv 0)) (fun _ _ _ _ _ _=>zai (i:=0) (zaM (by decide +kernel)) rfl (Or.inl rfl)) (fun _ _ _ _ _ _=>za8) (fun _ _ _ _ _ _=>zaz (zeD K rfl) (zbe rfl G_TOOTH_WORTH) (pv 0) (fun _ _=>rfl))) zab))),?_⟩
  refine ⟨_,rfl,_,rfl,⟨_,ha⟩,fun D hD => ?_⟩
  refine zbY (capv := []) (L:=ts.map V.int) (by rfl) (zak K a (ts.map V.int)) (by rw [List.length_map]; exact big hl) hD ?_ (fun _=>true) (fun v=>match v with | .int t => .int (pw t) | _ => .non) ?_ ?_ ?_
  ·exact fun H' s'=>s'.seq ha
  ·exact fun v hv H' R s' h=>h H' (Same.refl _)
  ·intro v hv _ H' R s' h
   obtain ⟨t,ht,rfl⟩:=List.mem_map.mp hv
   have h:R (.int (pw t)) H':=h H' (Same.refl _)
   obtain ⟨h0,h7⟩:=hr7 t ht
   exact ⟨_,rfl,_,_,_,_,rfl,rfl,HTW H',at_worths h0 h7,h⟩
  ·intro H' s' e
   refine ⟨_,ts.map pw,rfl,?_,q H' s'⟩
   refine SqL.of ?_
   rw [e]
   congr 2
   rw [List.filter_eq_self.mpr (fun _ _=>rfl),List.map_map,List.map_map]
   rfl
noncomputable def sp_steps (ea:Nat->Addr) (C:Addr):Sp:=fun vs H Q E=>∃ b l G cs past n,vs = [.ref b,.int n]/\Bk C G H b l cs past /\
 (if 0<=n/\n < 128 then ∀ p H' ws,Same H H'->H p=none->H' p=some (.lst ws)->(∀ nm:List Str,nm.Perm (cs.map (·.1))->sortedS nm=true->StepsR H' ws (stepsOf (byNames cs nm) n))->Q (.ref p) H' else E (.ref (ea 11)) none H)
theorem zbX:FnScope ["book","shape","steps","name","worth"] ["book","shape"] (defScope s_shape_steps):=⟨rfl,rfl,rfl,by decide +kernel,rfl,by decide +kernel,by decide +kernel⟩
theorem ok_steps {ea:Nat->Addr} {C:Addr} (D:DefAt K mg "shape_steps" s_shape_steps) (T:Bn mg) (BA:BookAt K C) (V_SHAPES:∃ t,mg "SHAPES" = some (.int 128 t)) (O_BadShape:Err K mg "BadShape" (ea 11)) (C_teeth_worth:Callee P w K mg base "teeth_worth" 1 ["teeth"] (sp_worth K))
  (M_names:Method P w K mg base C "names" CX0 1 ["self"] (sp_names C)) (M_teeth:Method P w K mg base C "teeth" (CX1 P w) 2 ["self","name"] (sp_bteeth ea C)):Callee1 P w K mg base "shape_steps" 3 ["book","shape"] (sp_steps ea C):=by
 refine D.callee1 zbX (fun _ _ _ _ _ _=>ln2 fun _ _=>rfl) (fun vs H Q E h => ?_) (fun f cdv A outer s H vs Q E hr h => ?_)
 ·obtain ⟨b,l,G,cs,past,n,rfl,_⟩:=h
  rfl
 ·obtain ⟨b,l,G,cs,past,n,rfl,B,q⟩:=h
  have S:=zbX
  have hu:=zcx hr
  have B_cls:=BA.cls
  refine ⟨_,zad (zaG (zbp (zdv zd5 zg1 (zac) (pv 1) (zb0 rfl V_SHAPES)))
   (zaf (zbg O_BadShape rfl (zaa (zap) zab)))
   (zan))
  (zad (zaG (zao zbT (zav zbq (pv 1) (zac)) (zac) (zat _))
   (zaf (zaj (zaN (zaa (zaY (zaa (zap) (zaa (zav zbN (pv 1) (zac)) zab))) zab))))
   (zan))
  (zad (zam (i:=2) S.nd rfl (Or.inl rfl) (zaN (zab)))
  (zad (zaT PassesOwn.leaving rfl (zar (pe_mt0 (pv 0) B_cls M_names (hr.mono (by decide)) (by first | exact zc1 | exact zaq | exact zbh | exact zaA))) (zai (i:=3) S.nd rfl (Or.inl rfl))
   (zad (zam (i:=4) S.nd rfl (Or.inl rfl) (zaD C_teeth_worth (hr.mono (by decide)) rfl (zaa (zeA (pv 0) B_cls M_teeth (hr.mono (by decide)) (by first | exact zc1 | exact zaq | exact zbh | exact zaA) (zaa (pv 3) zab)) zab)))
   (zaf (zaG (zao zbT (zav zgw (pv 1) (pv 4)) (zac) (zat _))
    (zaf (zaI (zcl PySem.F.plainAttrs_list PySem.F.slot_list_append PySem.F.type_list_append zaH (pv 2) (zaa (zaY (zaa (pv 3) (zaa (zav zbN (zav zbr (pv 1) (pv 4)) (zac)) zab))) zab))))
    (zan)))))
  (zaf (zaj (pv 2)))))),?_⟩
  refine ⟨_,rfl,_,_,rfl,rfl,_,rfl,?_⟩
  refine ite2 (fun h0 => ?_) (fun h0 => ?_)
  rotate_left
  ·have h0:¬ (0:Int)<=n:=by simpa using h0
   rw [if_neg (fun z=>h0 z.1)] at q
   exact ⟨_,rfl,iteT ⟨bigr rfl,q⟩⟩
  have h0:(0:Int)<=n:=by simpa using h0
  refine ⟨_,_,rfl,rfl,_,rfl,?_⟩
  by_cases h1:n < 128
  case neg =>
   rw [if_neg (fun z=>h1 z.2)] at q
   rw [decide_eq_false h1]
   exact iteT ⟨bigr rfl,q⟩
  rw [if_pos ⟨h0,h1⟩] at q
  rw [decide_eq_true h1]
  refine iteF ?_
  have p2:(0:Int) < 2:=by decide
  refine ⟨_,rfl,_,_,rfl,rfl,p2,rfl,_,rfl,?_⟩
  refine ite2 (fun hc => ?_) (fun hc => ?_)
  ·have hc:n % 2=1:=by simpa using hc
   refine ⟨_,rfl,_,_,rfl,rfl,⟨p2,by decide⟩,bigr rfl,fun t nt=>⟨bigr rfl,fun p np => ?_⟩⟩
   have s1:Same H (upd H t (.tup [.str "",.int (n / 2)])):=Same.new nt
   refine q p _ [.ref t] (s1.trans (Same.new np)) (s1.free np) upd_same fun nm _ _ => ?_
   rw [zb7 hc]
   refine ⟨⟨t,rfl,?_⟩,trivial⟩
   rw [zag (fun z=>by rw [<- z,upd_same] at np; cases np)]
   exact upd_same
  ·have hc:¬ n % 2=1:=by simpa using hc
   refine ⟨bigr rfl,fun pl npl => ?_⟩
   have s1:Same H (upd H pl (.lst [])):=Same.new npl
   obtain ⟨dx,d,hb,_⟩:=id (B.same s1).ins
   refine ⟨_,rfl,b,dx,_,rfl,hb,rfl,b,l,G,cs,past,rfl,B.same s1,fun pn nm npn hnp hns=>⟨_,rfl,⟨_,SqL.of upd_same⟩,?_⟩⟩
   have nlp:pn≠pl:=fun z=>by rw [z,upd_same] at npn; cases npn
   have s2:Same H (upd (upd H pl (.lst [])) pn (.lst (nm.map V.str))):=s1.trans (Same.new npn)
   have hnl:nm.length<=8:=by
    have:=hnp.length_eq
    rw [List.length_map] at this
    have:=B.good.len
    omega
   refine zbl (zak K pn (nm.map V.str)) (fun i σ Hx=>Same H Hx/\Hx pn=some (.lst (nm.map V.str))/\∃ ws x3 x4,σ = [some (.ref b),some (.int n),some (.ref pl),x3,x4]/\Hx pl=some (.lst ws)/\ws.length<=i/\StepsR Hx ws (stepsOf (byNames cs (nm.take i)) n)) ⟨s2,upd_same,[],_,_,rfl,(by rw [zag nlp.symm]; exact upd_same),Nat.le_refl _,?_⟩ (fun i σ Hx _ h=>SqL.of h.2.1) ?_ ?_
   ·rw [List.take_zero]
    show StepsR _ [] (stepsOf [] n)
    rw [steps_nil hc]
    trivial
   ·rintro i x σ Hx hx ⟨sx,hpn,ws,x3,x4,rfl,hpl,hwl,hst⟩
    rw [List.getElem?_map] at hx
    cases hk:nm[i]? with
    | none=>rw [hk] at hx; cases hx
    | some y =>
     rw [hk] at hx
     cases hx
     have hi:i < nm.length:=(List.getElem?_eq_some_iff.mp hk).1
     have hy:y∈cs.map (·.1):=hnp.mem_iff.mp (List.mem_of_getElem? hk)
     cases hts:cGet cs y with
     | none=>exact absurd hy (get_none.mp hts)
     | some ts =>
      have gts:GT ts:=(B.good.ok _ (zdJ hts)).2
      obtain ⟨dx2,d2,hb2,_⟩:=id (B.same sx).ins
      refine ⟨_,rfl,b,dx2,_,rfl,hb2,rfl,_,rfl,b,l,G,cs,past,y,rfl,B.same sx,?_⟩
      rw [hts]
      intro p3 np3
      refine ⟨p3,ts,rfl,SqL.of upd_same,zcy gts,by have:=zgB gts; omega,fun H4 s4 => ?_⟩
      have s34:Same Hx H4:=(Same.new np3).trans s4
      have eN:byNames cs (nm.take (i + 1))=byNames cs (nm.take i) ++ [(y,ts)]:=by
       rw [zaE hk,byNames_snoc hts]
      refine ⟨_,rfl,_,rfl,_,_,rfl,rfl,rfl,_,rfl,?_⟩
      refine ite2 (fun hz => ?_) (fun hz => ?_)
      ·have hz:Builtin.bitAnd n (worth ts)=0:=by simpa using hz
       refine ⟨_,rfl,.inl ⟨rfl,_,SqL.of (s34 _ _ hpl)⟩,_,rfl,_,rfl,_,rfl,_,_,rfl,rfl,_,_,rfl,rfl,⟨p2,by decide⟩,bigr rfl,fun t nt => ?_⟩
       have s5:Same Hx (upd H4 t (.tup [.str y,.int ((n + worth ts) / 2)])):=s34.trans (Same.new nt)
       have nplt:t≠pl:=fun z=>by rw [z,s34 _ _ hpl] at nt; cases nt
       refine ⟨pl,_,_,rfl,rfl,s5 _ _ hpl,Nat.lt_of_lt_of_le (by omega:ws.length < 1000) zaR,?_⟩
       refine ⟨(sx.trans s5).put npl,(by rw [zag nlp]; exact s5 _ _ hpn),_,_,_,rfl,upd_same,(by rw [List.length_append,List.length_singleton]; omega),?_⟩
       rw [eN,zc6 hc,if_pos hz]
       refine StepsR.snoc ?_ (hst.mono fun q' xs hq' => ?_)
       ·rw [zag nplt]; exact upd_same
       ·have:q'≠pl:=fun z=>by rw [z,hpl] at hq'; cases hq'
        rw [zag this]; exact s5 _ _ hq'
      ·have hz:¬ Builtin.bitAnd n (worth ts)=0:=by simpa using hz
       refine ⟨sx.trans s34,s34 _ _ hpn,ws,_,_,rfl,s34 _ _ hpl,by omega,?_⟩
       rw [eN,zc6 hc,if_neg hz,List.append_nil]
       exact hst.mono fun q' xs hq'=>s34 _ _ hq'
   ·rintro σ Hx ⟨sx,hpn,ws,x3,x4,rfl,hpl,hwl,hst⟩
    rw [List.length_map,List.take_length] at hst
    refine ⟨_,rfl,q pl Hx ws sx npl hpl fun nm' hp' hs' => ?_⟩
    rw [zdV (hp'.trans hnp.symm) hs' hns]
    exact hst
noncomputable def TabR (H:Hp) (ts:List V) (C:Combs):Prop:=ts.length=128/\∀ s:Nat,s < 128->∃ q ws,ts[s]?=some (.ref q)/\H q=some (.lst ws)/\StepsR H ws (stp C s)
theorem TabR.same {H H':Hp} {ts:List V} {C:Combs} (t:TabR H ts C) (s:Same H H'):TabR H' ts C :=
 ⟨t.1,fun i h=>let ⟨q,ws,a,b,c⟩:=t.2 i h; ⟨q,ws,a,s _ _ b,c.mono fun _ _ e=>s _ _ e⟩⟩
noncomputable def sp_table (C:Addr):Sp:=fun vs H Q _=>∃ b l G cs past,vs = [.ref b]/\Bk C G H b l cs past/\∀ p H' ts,Same H H'->H p=none->H' p=some (.lst ts)->TabR H' ts (srt cs)->Q (.ref p) H'
theorem zb8:FnScope ["book"] ["book"] (defScope s_step_table):=⟨rfl,rfl,rfl,by decide +kernel,rfl,by decide +kernel,by decide +kernel⟩
theorem ok_table {ea:Nat->Addr} {C:Addr} (D:DefAt K mg "step_table" s_step_table) (T:Bn mg) (V_SHAPES:∃ t,mg "SHAPES" = some (.int 128 t)) (C_shape_steps:Callee1 P w K mg base "shape_steps" 3 ["book","shape"] (sp_steps ea C)):Callee1 P w K mg base "step_table" 4 ["book"] (sp_table C):=by
 refine D.callee1 zb8 (fun _ _ _ _ _ _=>ln1 fun _=>rfl) (fun vs H Q E h => ?_) (fun f cdv A outer s H vs Q E hr h => ?_)
 ·obtain ⟨b,l,G,cs,past,rfl,_⟩:=h
  rfl
 ·obtain ⟨b,l,G,cs,past,rfl,B,q⟩:=h
  have S:=zb8
  refine ⟨_,zaf (zaj (zaU (own := ["shape"]) (caps := [(0,"book")]) rfl ⟨rfl,rfl,rfl,rfl,⟨⟨rfl,rfl,.inl rfl⟩,trivial⟩⟩ (za0 rfl T.n_range (zaa (zb0 rfl V_SHAPES) zab)) (fun _ _ _ _ _ _=>zai (i:=0) (zaM (by decide +kernel)) rfl (Or.inl rfl)) (fun _ _ _ _ _ _=>za8) (fun _ _ _ _ _ _=>zbj C_shape_steps (hr.mono (by decide)) (by first | exact zaq | exact zbh | exact zaA) rfl (zaa (pv 1) (zaa (pv 0) zab))))),?_⟩
  refine ⟨_,rfl,by decide,by decide,fun D hD => ?_⟩
  refine zgf (capv := [some (.ref b)]) (by rfl) (zaK 0 (128:Int).toNat) (by rw [zbi]; exact big (by decide)) hD (fun _ _=>trivial) (fun _=>true) (fun H i v=>∃ (q:Addr) (ws:List V),v = .ref q/\H q=some (.lst ws)/\StepsR H ws (stp (srt cs) i)) ?_ ?_ (fun i x hx H R s' h=>h H (Same.refl _)) ?_ ?_
  ·rintro H H' i v s' ⟨qa,ws,e2,e3,e4⟩
   exact ⟨qa,ws,e2,s' _ _ e3,e4.mono fun _ _ e=>s' _ _ e⟩
  ·rintro H i v l' l'' hv hH ⟨qa,ws,e2,e3,e4⟩
   subst e2
   have hne:qa≠D:=fun z=>hv (by rw [z])
   refine ⟨qa,ws,rfl,(by rw [zag hne]; exact e3),e4.mono fun q' xs e => ?_⟩
   rw [zag (fun z=>by rw [z,hH] at e; cases e)]
   exact e
  ·intro i x hx _ H' R s' hDn h
   obtain ⟨hi,rfl⟩:=zbb hx
   rw [Int.zero_add]
   refine ⟨_,rfl,_,rfl,b,l,G,cs,past,((i:Nat):Int),rfl,B.same s',?_⟩
   rw [if_pos ⟨by omega,by have:i < 128:=hi; omega⟩]
   intro p H2 ws s2 np hp st
   exact h H2 _ s2 (fun z=>hDn (by injection z with z; rw [<- z]; exact np)) ⟨p,ws,rfl,hp,st _ (zeC cs) (zd6 cs)⟩
  ·intro H' ys s' hD' pr
   rw [zbi,List.filter_eq_self.mpr (fun _ _=>rfl)] at pr
   refine q _ H' ys s' hD hD' ⟨by rw [<- Paired.length pr,List.length_range]; rfl,fun i hi => ?_⟩
   obtain ⟨y,ey,_,qa,ws,rfl,e3,e4⟩:=Paired.at pr (List.getElem?_range (show i < (128:Int).toNat from hi))
   exact ⟨qa,ws,ey,e3,e4⟩
theorem zdu {C:Addr} {G:Addr->Prop} {H:Hp} {b l:Addr} {cs:Combs} {past:List Combs} (B:Bk C G H b l cs past):GC (srt cs)/\(srt cs).length<=8:=by
 have g:=B.good
 have p:=ze1 g.nd
 exact ⟨fun c hc=>(g.ok c (p.mem_iff.mp hc)).2,by rw [p.length_eq]; exact g.len⟩
noncomputable def wrow (A:Nat->Nat):List V:=(List.range 128).map fun s=>V.int ((A s:Nat):Int)
theorem zdn (A:Nat->Nat) {s:Nat} (h:s < 128):atI (wrow A) ((s:Nat):Int)=some (.int ((A s:Nat):Int)):=by
 refine zas ?_
 unfold wrow
 rw [List.getElem?_map,List.getElem?_range h]
 rfl
theorem wrow_len (A:Nat->Nat):(wrow A).length=128:=by unfold wrow; rw [List.length_map,List.length_range]
noncomputable def sp_behindw:Sp:=fun vs H Q _=>∃ (st a b:Addr) (x:Str) (p:Str×Int) (A B:Nat->Nat),vs = [.ref st,.ref a,.ref b,.str x]/\H st=some (.tup [.str p.1,.int p.2])/\0<=p.2/\p.2.toNat < 128/\H a=some (.lst (wrow A))/\H b=some (.lst (wrow B))/\Q (.int ((bh x A B p:Nat):Int)) H
theorem zbV:FnScope ["step","ways","wanted","name","row"] ["step","ways","wanted","name"] (defScope s_ways_behind):=⟨rfl,rfl,rfl,by decide +kernel,rfl,by decide +kernel,by decide +kernel⟩
theorem ok_behindw (D:DefAt K mg "ways_behind" s_ways_behind) (T:Bn mg):Callee P w K mg base "ways_behind" 1 ["step","ways","wanted","name"] sp_behindw:=by
 refine D.callee zbV (fun _ _ _ _ _ _=>ln4 fun _ _ _ _=>rfl) (fun vs H Q E h => ?_) (fun f cdv A outer s H vs Q E hr h => ?_)
 ·obtain ⟨st,a,b,x,p,A',B',rfl,_⟩:=h
  rfl
 ·obtain ⟨st,a,b,x,⟨p1,p2⟩,A',B',rfl,hst,h0,h1,ha,hb,q⟩:=h
  have S:=zbV
  dsimp only at hst h0 h1
  refine ⟨_,zcj (zam (i:=4) S.nd rfl (Or.inl rfl) (pe_ifExp (zao zbT (zaz za6 (pv 0) (zac) (fun _ _=>rfl)) (pv 3) (zat _)) (pv 1) (pv 2)))
  (zaf (zaj (zaz zaC (pv 4) (zaz za6 (pv 0) (zac) (fun _ _=>rfl)) (fun _ _=>rfl)))),?_⟩
  have e2:p2=((p2.toNat:Nat):Int):=by omega
  refine ⟨fun σ Hx=>Hx=H/\∃ (r:Addr),H r=some (.lst (wrow (if p1=x then A' else B'))) /\ σ = [some (.ref st),some (.ref a),some (.ref b),some (.str x),some (.ref r)],?_,?_⟩
  ·refine ⟨_,rfl,_,_,_,_,rfl,rfl,SqT.of hst,at0,_,rfl,rfl,_,rfl,?_⟩
   by_cases e:p1=x
   ·rw [decide_eq_true (by rw [e])]
    refine iteT ?_
    exact ⟨_,rfl,rfl,a,by rw [if_pos e]; exact ha,rfl⟩
   ·rw [decide_eq_false (fun z=>e (by injection z))]
    refine iteF ?_
    exact ⟨_,rfl,rfl,b,by rw [if_neg e]; exact hb,rfl⟩
  rintro σ Hx ⟨rfl,r,hr',rfl⟩
  refine ⟨_,rfl,_,rfl,_,_,_,_,rfl,rfl,SqT.of hst,at1,_,_,_,_,rfl,rfl,SqL.of hr',by rw [e2]; exact zdn _ h1,?_⟩
  have e3:(if p1=x then A' else B') p2.toNat=bh x A' B' (p1,p2):=by
   unfold bh
   dsimp only
   split <;> rfl
  rw [e3]
  exact q
noncomputable def sp_from:Sp:=fun vs H Q _=>∃ (l a b:Addr) (x:Str) (ws:List V) (ps:List (Str×Int)) (A B:Nat->Nat),vs = [.ref l,.ref a,.ref b,.str x]/\H l=some (.lst ws)/\StepsR H ws ps/\ps.length<=100/\(∀ p∈ps,0<=p.2/\p.2.toNat < 128)/\H a=some (.lst (wrow A))/\H b=some (.lst (wrow B))/\∀ H',Same H H'->Q (.int (((ps.map (bh x A B)).sum:Nat):Int)) H'
theorem sum_cast (l:List Nat):(l.map fun (n:Nat)=>(n:Int)).sum=((l.sum:Nat):Int):=by
 induction l with
 | nil=>rfl
 | cons a l ih=>rw [List.map_cons,List.sum_cons,List.sum_cons,ih]; omega
theorem zct:FnScope ["steps","ways","wanted","name"] ["steps","ways","wanted","name"] (defScope s_ways_from):=⟨rfl,rfl,rfl,by decide +kernel,rfl,by decide +kernel,by decide +kernel⟩
theorem ok_from (D:DefAt K mg "ways_from" s_ways_from) (T:Bn mg) (C_ways_behind:Callee P w K mg base "ways_behind" 1 ["step","ways","wanted","name"] sp_behindw):Callee P w K mg base "ways_from" 2 ["steps","ways","wanted","name"] sp_from:=by
 refine D.callee zct (fun _ _ _ _ _ _=>ln4 fun _ _ _ _=>rfl) (fun vs H Q E h => ?_) (fun f cdv A outer s H vs Q E hr h => ?_)
 ·obtain ⟨l,a,b,x,ws,ps,A',B',rfl,_⟩:=h
  rfl
 ·obtain ⟨l,a,b,x,ws,ps,A',B',rfl,hl,sr,hpl,hps,ha,hb,q⟩:=h
  have S:=zct
  have hwl:=sr.length
  refine ⟨_,zaf (zaj (zah (zeo rfl) rfl T.n_sum boot_sum (zaa (zaU (own := ["step"]) (caps := [(1,"ways"),(2,"wanted"),(3,"name")]) rfl ⟨rfl,rfl,rfl,rfl,⟨⟨rfl,rfl,.inl rfl⟩,⟨rfl,rfl,.inl rfl⟩,⟨rfl,rfl,.inl rfl⟩,trivial⟩⟩ (zar (pv 0)) (fun _ _ _ _ _ _=>zai (i:=0) (zaM (by decide +kernel)) rfl (Or.inl rfl)) (fun _ _ _ _ _ _=>za8) (fun _ _ _ _ _ _=>zaD C_ways_behind (hr.mono (by decide)) rfl (zaa (pv 0) (zaa (pv 1) (zaa (pv 2) (zaa (pv 3) zab)))))) zab))),?_⟩
  refine ⟨_,rfl,_,rfl,⟨_,SqL.of hl⟩,fun D hD => ?_⟩
  refine zdl (capv := [some (.ref a),some (.ref b),some (.str x)]) (by rfl) (zak K l ws) (big (by omega)) hD (fun H' s'=>SqL.of (s' _ _ hl)) (fun _=>true) (fun u=>V.int ((bh x A' B' (ps.getD u ("",0)):Nat):Int)) (fun _ _ _=>nofun) (fun u y hy H' R s' h=>h H' (Same.refl _)) ?_ ?_
  ·intro u y hy _ H' R s' h
   have hu:u < ps.length:=by rw [<- hwl]; exact (List.getElem?_eq_some_iff.mp hy).1
   obtain ⟨qa,e4,e5⟩:=sr.get (List.getElem?_eq_getElem hu)
   rw [hy] at e4
   cases e4
   have hm:=hps _ (List.getElem_mem hu)
   refine ⟨_,rfl,_,rfl,_,rfl,_,rfl,qa,a,b,x,ps[u],A',B',rfl,s' _ _ e5,hm.1,hm.2,s' _ _ ha,s' _ _ hb,?_⟩
   have:=h H' (Same.refl _)
   rw [List.getD_eq_getElem?_getD,List.getElem?_eq_getElem hu] at this
   exact this
  intro H1 s1 e1
  refine ⟨D,ps.map fun p=>((bh x A' B' p:Nat):Int),rfl,SqL.of ?_,?_⟩
  ·rw [e1,List.filter_eq_self.mpr (fun _ _=>rfl),hwl,List.map_map]
   congr 2
   refine List.ext_getElem? fun u => ?_
   rw [List.getElem?_map,List.getElem?_map]
   by_cases z:u < ps.length
   ·rw [List.getElem?_range z,List.getElem?_eq_getElem z,Option.map_some,Option.map_some,List.getD_eq_getElem?_getD,List.getElem?_eq_getElem z]
    rfl
   ·rw [List.getElem?_eq_none (by rw [List.length_range]; omega),List.getElem?_eq_none (by omega)]
    rfl
  have e2:(ps.map fun p=>((bh x A' B' p:Nat):Int)).sum=(((ps.map (bh x A' B')).sum:Nat):Int):=by
   rw [<- sum_cast,List.map_map]
   rfl
  rw [e2]
  exact q H1 s1
noncomputable def WaysR (N:Addr->Prop) (H:Hp) (ws:List V) (A:Nat->Nat->Nat) (n:Nat):Prop:=ws.length=n + 1/\∀ k:Nat,k<=n->∃ q,ws[k]?=some (.ref q)/\N q/\H q=some (.lst (wrow (A k)))
theorem WaysR.mono {N N':Addr->Prop} {H H':Hp} {ws:List V} {A:Nat->Nat->Nat} {n:Nat} (r:WaysR N H ws A n) (hn:∀ q,N q->N' q) (m:∀ q o,N q->H q=some o->H' q=some o):WaysR N' H' ws A n:=⟨r.1,fun k hk=>let ⟨q,a,b,c⟩:=r.2 k hk; ⟨q,a,hn q b,m _ _ b c⟩⟩
theorem WaysR.snoc {N:Addr->Prop} {H:Hp} {ws:List V} {A:Nat->Nat->Nat} {n:Nat} {q:Addr} (r:WaysR N H ws A n) (hq:H q=some (.lst (wrow (A (n + 1))))) (hn:N q):WaysR N H (ws ++ [.ref q]) A (n + 1):=by
 refine ⟨by rw [List.length_append,r.1]; rfl,fun k hk => ?_⟩
 by_cases e:k=n + 1
 ·subst e
  exact ⟨q,by rw [List.getElem?_append_right (by rw [r.1]; exact Nat.le_refl _),r.1,Nat.sub_self]; rfl,hn,hq⟩
 ·obtain ⟨q',a,b,c⟩:=r.2 k (by omega)
  exact ⟨q',by rw [List.getElem?_append_left (by rw [r.1]; omega)]; exact a,b,c⟩
noncomputable def sp_close:Sp:=fun vs H Q _=>∃ (a:Addr) (ts:List V) (C:Combs) (n:Nat),vs = [.ref a,.int (n:Nat)]/\H a=some (.lst ts)/\TabR H ts C/\GC C/\C.length<=8/\n<=200/\∀ (r:Addr) (ws:List V) (H':Hp),Same H H'->H' r=some (.lst ws)->WaysR (fun _=>True) H' ws (Wy C) n->Q (.ref r) H'
theorem zbD:FnScope ["table","length","rows","passed"] ["table","length"] (defScope s_ways_to_close):=⟨rfl,rfl,rfl,by decide +kernel,rfl,by decide +kernel,by decide +kernel⟩
theorem ok_close (D:DefAt K mg "ways_to_close" s_ways_to_close) (T:Bn mg) (C_ways_from:Callee P w K mg base "ways_from" 2 ["steps","ways","wanted","name"] sp_from):Callee P w K mg base "ways_to_close" 3 ["table","length"] sp_close:=by
 refine D.callee zbD (fun _ _ _ _ _ _=>ln2 fun _ _=>rfl) (fun vs H Q E h => ?_) (fun f cdv A outer s H vs Q E hr h => ?_)
 ·obtain ⟨a,ts,C,n,rfl,_⟩:=h
  rfl
 ·obtain ⟨a,ts,C,n,rfl,ha,tb,gc,h8,hn,q⟩:=h
  have S:=zbD
  have htl:=tb.1
  refine ⟨_,zad (zam (i:=2) S.nd rfl (Or.inr rfl) (zaN (zaa (zaU (own := ["steps"]) (caps := []) rfl ⟨rfl,rfl,rfl,rfl,trivial⟩ (zar (pv 0)) (fun _ _ _ _ _ _=>zai (i:=0) (zaM (by decide +kernel)) rfl (Or.inl rfl)) (fun _ _ _ _ _ _=>za8) (fun _ _ _ _ _ _=>zac)) zab)))
  (zad (zgs (zac) (zgu (zaz zaC (pv 2) (zac) (fun _ _=>rfl)) (zac) ze2))
  (zad (zaT PassesOwn.never rfl (za0 rfl T.n_range (zaa (pv 1) zab)) (zai (i:=3) S.nd rfl (Or.inl rfl))
   (zaf (zaI (zcl PySem.F.plainAttrs_list PySem.F.slot_list_append PySem.F.type_list_append zaH (pv 2) (zaa (zaU (own := ["steps"]) (caps := [(2,"rows")]) rfl ⟨rfl,rfl,rfl,rfl,⟨⟨rfl,rfl,.inl rfl⟩,trivial⟩⟩ (zar (pv 0)) (fun _ _ _ _ _ _=>zai (i:=0) (zaM (by decide +kernel)) rfl (Or.inl rfl)) (fun _ _ _ _ _ _=>za8) (fun _ _ _ _ _ _=>zaD C_ways_from (hr.mono (by decide)) rfl (zaa (pv 0) (zaa (zaz (zbS K rfl) (pv 1) (zfS zdT (zac)) (fun _ _=>rfl)) (zaa (zaz (zbS K rfl) (pv 1) (zfS zdT (zac)) (fun _ _=>rfl)) (zaa (zap) zab)))))) zab)))))
  (zaf (zaj (pv 2))))),?_⟩
  refine ⟨_,rfl,_,rfl,⟨_,SqL.of ha⟩,fun D hD => ?_⟩
  refine zbY (capv := []) (by rfl) (zak K a ts) (big (by omega)) hD (fun H' s'=>SqL.of (s' _ _ ha)) (fun _=>true) (fun _=>V.int 0) (fun x hx H' R s' h=>h H' (Same.refl _)) (fun x hx _ H' R s' h=>h H' (Same.refl _)) ?_
  intro H1 s1 e1
  have e1':H1 D=some (.lst ((List.range 128).map fun _=>V.int 0)):=by
   rw [e1,List.filter_eq_self.mpr (fun _ _=>rfl)]
   congr 2
   refine List.ext_getElem (by rw [List.length_map,List.length_map,List.length_range]; omega) fun i h1 h2 => ?_
   rw [List.getElem_map,List.getElem_map]
  refine ⟨bigr rfl,fun r nr => ?_⟩
  have s2:Same H1 (upd H1 r (.lst [.ref D])):=Same.new nr
  have hr2:upd H1 r (.lst [.ref D]) r=some (.lst [.ref D]):=upd_same
  have hD2:=s2 _ _ e1'
  have hDr:D≠r:=fun z=>by rw [<- z,e1'] at nr; cases nr
  have s12:=s1.trans s2
  have nr0:=s1.free nr
  generalize upd H1 r (.lst [.ref D])=H2 at s12 hr2 hD2 ⊢
  have hix:ixN ((List.range 128).map fun _=>V.int 0).length 0=some 0:=by rw [List.length_map,List.length_range]; decide
  refine ⟨_,rfl,_,_,_,_,rfl,rfl,SqL.of hr2,(show atI [V.ref D] ((0:Nat):Int)=_ from zas rfl),D,_,_,_,rfl,rfl,hD2,hix,?_⟩
  have ew:((List.range 128).map fun _=>V.int 0).set 0 (V.int 1)=wrow (Wy C 0):=by
   unfold wrow
   rw [zfY _ _ (by decide)]
   refine List.map_congr_left fun s _ => ?_
   show _=V.int (((if s=0 then 1 else 0:Nat)):Int)
   split <;> rfl
  rw [ew]
  have hDn0:H D=none:=hD
  have s3:Same H (upd H2 D (.lst (wrow (Wy C 0)))):=s12.put hDn0
  have hD3:upd H2 D (.lst (wrow (Wy C 0))) D=some (.lst (wrow (Wy C 0))):=upd_same
  have hr3:upd H2 D (.lst (wrow (Wy C 0))) r=some (.lst [.ref D]):=by rw [zag hDr.symm]; exact hr2
  generalize upd H2 D (.lst (wrow (Wy C 0)))=H3 at s3 hD3 hr3 ⊢
  refine ⟨_,rfl,_,rfl,by omega,by omega,?_⟩
  refine zbl (zaK 0 ((n:Nat):Int).toNat) (fun i σ Hx=>Same H Hx/\∃ (ws:List V) (x3:Option V),σ = [some (.ref a),some (.int (n:Nat)),some (.ref r),x3]/\Hx r=some (.lst ws)/\WaysR (fun z=>z≠r) Hx ws (Wy C) i) ⟨s3,[.ref D],_,rfl,hr3,rfl,fun k hk=>by
    have:k=0:=by omega
    subst this
    exact ⟨D,rfl,hDr,hD3⟩⟩ (fun _ _ _ _ _=>trivial) ?_ ?_
  ·rintro i x σ Hx hx ⟨sx,ws,x3,rfl,hrx,wr⟩
   obtain ⟨hi,rfl⟩:=zbb hx
   have hi':i < n:=by omega
   obtain ⟨qk,eqk,_,hqk⟩:=wr.2 i (Nat.le_refl _)
   have hat:atI ws (-1)=some (.ref qk):=zgM wr.1 eqk
   refine ⟨_,rfl,.inl ⟨rfl,_,SqL.of hrx⟩,_,rfl,_,rfl,⟨_,SqL.of (sx _ _ ha)⟩,fun D2 hD2 => ?_⟩
   refine zdl (capv := [some (.ref r)]) (by rfl) (zak K a ts) (big (by omega)) hD2 (fun H' s'=>SqL.of (s' _ _ (sx _ _ ha))) (fun _=>true) (fun s=>V.int ((Wy C (i + 1) s:Nat):Int)) (fun _ _ _=>nofun) (fun u y hy H' R s' h=>h H' (Same.refl _)) ?_ ?_
   ·intro u y hy _ H' R s' h
    have hu:u < 128:=by rw [<- htl]; exact (List.getElem?_eq_some_iff.mp hy).1
    obtain ⟨qs,wss,e1,e2,e3⟩:=(tb.same (sx.trans s')).2 u hu
    rw [hy] at e1
    cases e1
    refine ⟨_,rfl,_,rfl,_,rfl,_,_,_,_,rfl,rfl,SqL.of (s' _ _ hrx),hat,_,rfl,_,rfl,_,_,_,_,rfl,rfl,SqL.of (s' _ _ hrx),hat,?_⟩
    refine ⟨qs,qk,qk,Str.ofString "",wss,stp C u,Wy C i,Wy C i,rfl,e2,e3,by have:=zds h8 u; omega,fun p hp=>zcr gc hu hp,s' _ _ hqk,s' _ _ hqk,fun H'' s'' => ?_⟩
    have e:((stp C u).map (bh (Str.ofString "") (Wy C i) (Wy C i))).sum=Wy C (i + 1) u:=((zgl C (Str.ofString "")).succ i u).symm
    rw [e]
    exact h H'' s''
   intro H4 s4 e4
   have hr4:=s4 _ _ hrx
   have hD2r:D2≠r:=fun z=>by rw [z,hrx] at hD2; cases hD2
   have e4':H4 D2=some (.lst (wrow (Wy C (i + 1)))):=by
    rw [e4,List.filter_eq_self.mpr (fun _ _=>rfl),htl]
    rfl
   refine ⟨r,_,_,rfl,rfl,hr4,Nat.lt_of_lt_of_le (by have:=wr.1; omega:ws.length < 1000) zaR,?_⟩
   refine ⟨(sx.trans s4).put nr0,_,_,rfl,upd_same,?_⟩
   exact (WaysR.mono wr (fun _ z=>z) fun z o hz e=>by rw [zag hz]; exact s4 _ _ e).snoc (by rw [zag hD2r]; exact e4') hD2r
  ·rintro σ Hx ⟨sx,ws,x3,rfl,hrx,wr⟩
   rw [zbi,show ((n:Nat):Int).toNat=n by omega] at wr
   exact ⟨_,rfl,q r ws Hx sx hrx (wr.mono (fun _ _=>trivial) fun _ _ _ e=>e)⟩
noncomputable def sp_open:Sp:=fun vs H Q _=>∃ (l a b:Addr) (x:Str) (ws:List V) (ps:List (Str×Int)) (A B:Nat->Nat) (p:Str×Int),vs = [.ref l,.ref a,.ref b,.str x]/\H l=some (.lst ws)/\StepsR H ws ps/\ps.length<=100/\(∀ p∈ps,0<=p.2/\p.2.toNat < 128)/\H a=some (.lst (wrow A))/\H b=some (.lst (wrow B))/\ps.find? (fun p=>decide (0 < bh x A B p))=some p/\∀ q H',Same H H'->H' q=some (.tup [.str p.1,.int p.2])->Q (.ref q) H'
theorem find_filterO {α : Type} {ps:List α} {f : α -> Bool} {p d : α} (h:ps.find? f=some p):∃ i,((List.range ps.length).filter fun i=>f (ps.getD i d))[0]?=some i/\ps[i]?=some p:=by
 induction ps with
 | nil=>cases h
 | cons x ps ih =>
  rw [List.length_cons,List.range_succ_eq_map,List.filter_cons]
  by_cases e:f x=true
  ·rw [List.find?_cons_of_pos e] at h
   cases h
   exact ⟨0,by rw [if_pos (by simpa using e)]; rfl,rfl⟩
  ·rw [List.find?_cons_of_neg e] at h
   obtain ⟨i,h1,h2⟩:=ih h
   refine ⟨i + 1,?_,by simpa using h2⟩
   rw [if_neg (by simpa using e),List.filter_map,List.getElem?_map]
   show (((List.range ps.length).filter fun i=>f (ps.getD i d))[0]?).map _=_
   rw [h1]
   rfl
theorem zbn:FnScope ["steps","ways","wanted","name"] ["steps","ways","wanted","name"] (defScope s_first_open_step):=⟨rfl,rfl,rfl,by decide +kernel,rfl,by decide +kernel,by decide +kernel⟩
theorem ok_open (D:DefAt K mg "first_open_step" s_first_open_step) (T:Bn mg) (C_ways_behind:Callee P w K mg base "ways_behind" 1 ["step","ways","wanted","name"] sp_behindw):Callee P w K mg base "first_open_step" 2 ["steps","ways","wanted","name"] sp_open:=by
 refine D.callee zbn (fun _ _ _ _ _ _=>ln4 fun _ _ _ _=>rfl) (fun vs H Q E h => ?_) (fun f cdv A outer s H vs Q E hr h => ?_)
 ·obtain ⟨l,a,b,x,ws,ps,A',B',p,rfl,_⟩:=h
  rfl
 ·obtain ⟨l,a,b,x,ws,ps,A',B',p,rfl,hl,st,hpl,hps,ha,hb,hf,q⟩:=h
  have S:=zbn
  have hlw:=st.length
  refine ⟨_,zaf (zaj (zaz zaC (zaU (own := ["step"]) (caps := [(1,"ways"),(2,"wanted"),(3,"name")]) rfl ⟨rfl,rfl,rfl,rfl,⟨⟨rfl,rfl,.inl rfl⟩,⟨rfl,rfl,.inl rfl⟩,⟨rfl,rfl,.inl rfl⟩,trivial⟩⟩ (zar (pv 0)) (fun _ _ _ _ _ _=>zai (i:=0) (zaM (by decide +kernel)) rfl (Or.inl rfl)) (fun _ _ _ _ _ _=>zci (zao zgm (zaD C_ways_behind (hr.mono (by decide)) rfl (zaa (pv 0) (zaa (pv 1) (zaa (pv 2) (zaa (pv 3) zab))))) (zac) (zat _))) (fun _ _ _ _ _ _=>pv 0)) (zac) (fun _ _=>rfl))),?_⟩
  refine ⟨_,rfl,_,rfl,⟨_,SqL.of hl⟩,fun D hD => ?_⟩
  have hne:∀ i,i < ws.length->ws.getD i .non ≠ .ref D:=fun i hi z=>by
   obtain ⟨qa,e1,e2⟩:=st.get (List.getElem?_eq_getElem (show i < ps.length by omega))
   rw [List.getD_eq_getElem?_getD,e1] at z
   cases z
   rw [hD] at e2
   cases e2
  refine zdl (capv := [some (.ref a),some (.ref b),some (.str x)]) (by rfl) (zak K l ws) (big (by omega)) hD (fun H' s'=>SqL.of (s' _ _ hl)) (fun i=>decide (0 < bh x A' B' (ps.getD i ("",0)))) (fun i=>ws.getD i .non) (fun i hi _=>hne i hi) ?_ ?_ ?_
  ·intro i y hy H' R s' h
   have hi:i < ps.length:=by rw [<- hlw]; exact (List.getElem?_eq_some_iff.mp hy).1
   obtain ⟨qa,e1,e2⟩:=st.get (List.getElem?_eq_getElem hi)
   rw [hy] at e1
   cases e1
   obtain ⟨h0,h1⟩:=hps ps[i] (List.getElem_mem hi)
   refine ⟨_,rfl,_,rfl,_,rfl,_,rfl,qa,a,b,x,ps[i],A',B',rfl,s' _ _ e2,h0,h1,s' _ _ ha,s' _ _ hb,_,_,rfl,rfl,_,rfl,?_⟩
   have:=h H' (Same.refl _)
   have e:decide (0 < bh x A' B' (ps.getD i ("",0)))=decide ((0:Int) < ((bh x A' B' ps[i]:Nat):Int)):=by
    rw [List.getD_eq_getElem?_getD,List.getElem?_eq_getElem hi,decide_eq_decide]
    show 0 < bh x A' B' ps[i] ↔ _
    omega
   rw [e] at this
   exact this
  ·intro i y hy _ H' R s' h
   refine ⟨_,rfl,?_⟩
   have:=h H' (Same.refl _)
   rw [List.getD_eq_getElem?_getD,hy] at this
   exact this
  ·intro H' s' e
   obtain ⟨i,h1,h2⟩:=find_filterO (d:=(("",0):Str×Int)) hf
   rw [hlw] at e
   obtain ⟨qa,e1,e2⟩:=st.get h2
   refine ⟨_,_,_,_,rfl,rfl,SqL.of e,zas (j:=0) ?_,q qa H' s' (s' _ _ e2)⟩
   rw [List.getElem?_map,h1,Option.map_some,List.getD_eq_getElem?_getD,e1]
   rfl
noncomputable def sp_layf (ea:Nat->Addr):Sp:=fun vs H Q E=>∃ (a wa wb:Addr) (x:Str) (ts ws ws':List V) (C:Combs) (n:Nat) (B:Nat->Nat->Nat),vs = [.ref a,.ref wa,.ref wb,.str x]/\H a=some (.lst ts)/\TabR H ts C/\GC C/\C.length<=8/\n<=200/\H wa=some (.lst ws)/\WaysR (fun _=>True) H ws (Wy C) n/\H wb=some (.lst ws')/\WaysR (fun _=>True) H ws' B n/\Sel C x B /\
 (if 0 < B n 0 then ∀ (r:Addr) (wl:List V) (H':Hp),Same H H'->H r=none->H' r=some (.lst wl)->LaysR H' wl (fnm C x B n) n->Q (.ref r) H' else E (.ref (ea 14)) none H)
theorem zcu:FnScope ["table","ways","wanted","name","left","layings","shape","place","step"] ["table","ways","wanted","name"] (defScope s_lay_first):=⟨rfl,rfl,rfl,by decide +kernel,rfl,by decide +kernel,by decide +kernel⟩
theorem ok_layf {ea:Nat->Addr} (D:DefAt K mg "lay_first" s_lay_first) (T:Bn mg) (O_NoFilling:Err K mg "NoFilling" (ea 14)) (C_first_open_step:Callee P w K mg base "first_open_step" 2 ["steps","ways","wanted","name"] sp_open):Callee1 P w K mg base "lay_first" 3 ["table","ways","wanted","name"] (sp_layf ea):=by
 refine D.callee1 zcu (fun _ _ _ _ _ _=>ln4 fun _ _ _ _=>rfl) (fun vs H Q E h => ?_) (fun f cdv A outer s H vs Q E hr h => ?_)
 ·obtain ⟨a,wa,wb,x,ts,ws,ws',C,n,B,rfl,_⟩:=h
  rfl
 ·obtain ⟨a,wa,wb,x,ts,ws,ws',C,n,B,rfl,ha,tb,gc,h8,hn,hwa,wr,hwb,wr',sl,q⟩:=h
  have S:=zcu
  have elen:((ws.length:Nat):Int) - 1=((n:Nat):Int):=by rw [wr.1]; omega
  refine ⟨_,zad (zam (i:=4) S.nd rfl (Or.inl rfl) (zav zdi (zah zau rfl T.n_len PySem.boot_len (zaa (pv 1) zab)) (zac)))
  (zad (zaG (zao zbT (zaz zaC (zaz zaC (pv 2) (pv 4) (fun _ _=>rfl)) (zac) (fun _ _=>rfl)) (zac) (zat _))
   (zaf (zbg O_NoFilling rfl (zaa (zap) zab)))
   (zan))
  (zad (zam (i:=5) S.nd rfl (Or.inl rfl) (zaN (zab)))
  (zad (zam (i:=6) S.nd rfl (Or.inl rfl) (zac))
  (zad (zaT PassesOwn.leaving rfl (za0 rfl T.n_range (zaa (pv 4) zab)) (zai (i:=7) S.nd rfl (Or.inl rfl))
   (zad (zam (i:=4) S.nd rfl (Or.inl rfl) (zav zdi (pv 4) (zac)))
   (zad (zam (i:=8) S.nd rfl (Or.inl rfl) (zaD C_first_open_step (hr.mono (by decide)) rfl (zaa (zaz zaC (pv 0) (pv 6) (fun _ _=>rfl)) (zaa (zaz zaC (pv 1) (pv 4) (fun _ _=>rfl)) (zaa (zaz zaC (pv 2) (pv 4) (fun _ _=>rfl)) (zaa (pv 3) zab))))))
   (zcj (zaG (zao zeB (zaz za6 (pv 8) (zac) (fun _ _=>rfl)) (zap) (zat _))
    (zaf (zaI (zcl PySem.F.plainAttrs_list PySem.F.slot_list_append PySem.F.type_list_append zaH (pv 5) (zaa (zaY (zaa (pv 7) (zaa (zaz za6 (pv 8) (zac) (fun _ _=>rfl)) zab))) zab))))
    (zan))
   (zcj (zaG (zao zbT (zaz za6 (pv 8) (zac) (fun _ _=>rfl)) (pv 3) (zat _))
    (zaf (zam (i:=2) S.nd rfl (Or.inl rfl) (pv 1)))
    (zan))
   (zaf (zam (i:=6) S.nd rfl (Or.inl rfl) (zaz za6 (pv 8) (zac) (fun _ _=>rfl)))))))))
  (zaf (zaj (pv 5))))))),?_⟩
  refine ⟨_,rfl,_,_,rfl,.inl (SqL.of hwa),_,_,rfl,rfl,?_⟩
  obtain ⟨qn,eqn,_,hqn⟩:=wr'.2 n (Nat.le_refl _)
  refine ⟨_,rfl,_,rfl,_,_,_,_,rfl,rfl,SqL.of hwb,by rw [elen]; exact zas eqn,_,_,_,_,rfl,rfl,SqL.of hqn,(show atI (wrow (B n)) ((0:Nat):Int)=_ from zdn _ (by decide)),rfl,_,rfl,?_⟩
  by_cases hb:0 < B n 0
  case neg =>
   rw [if_neg hb] at q
   have:B n 0=0:=by omega
   rw [this,decide_eq_true (show V.int ((0:Nat):Int)=V.int 0 from rfl)]
   exact iteT ⟨bigr rfl,q⟩
  rw [if_pos hb] at q
  rw [decide_eq_false (show ¬ V.int ((B n 0:Nat):Int)=V.int 0 from fun z=>by injection z with z; omega)]
  refine iteF ?_
  refine ⟨bigr rfl,fun r nr => ?_⟩
  have s1:Same H (upd H r (.lst [])):=Same.new nr
  refine ⟨_,rfl,_,rfl,by rw [elen]; omega,by rw [elen]; omega,?_⟩
  have hok:=zgU gc sl hb
  let wd:Bool->Addr:=fun b=>if b=true then wa else wb
  rw [elen,show ((n:Nat):Int).toNat=n by omega]
  refine zbl (zaK 0 n) (fun i σ Hx=>Same H Hx/\∃ (wl:List V) (x7 x8:Option V),σ = [some (.ref a),some (.ref wa),some (.ref (wd (fw C x B n i).2)),some (.str x),some (.int ((n - i:Nat):Int)),some (.ref r),some (.int (((fw C x B n i).1:Nat):Int)),x7,x8]/\Hx r=some (.lst wl)/\LaysR Hx wl (fnm C x B n) i) ⟨s1,[],_,_,by rw [Nat.sub_zero,<- elen]; rfl,upd_same,.nil⟩ (fun _ _ _ _ _=>trivial) ?_ ?_
  ·rintro i y σ Hx hx ⟨sx,wl,x7,x8,rfl,hrx,lr⟩
   obtain ⟨hi,rfl⟩:=zbb hx
   rw [Int.zero_add]
   obtain ⟨h1,h2⟩:=hok i (by omega)
   obtain ⟨g1,g2,g3⟩:=zf6 gc sl hb hi
   have hnx:=(hok (i + 1) (by omega)).1
   have e1:((n - i:Nat):Int) - 1=((n - 1 - i:Nat):Int):=by omega
   obtain ⟨qs,wss,t1,t2,t3⟩:=(tb.same sx).2 _ h1
   obtain ⟨qa,a1,_,a2⟩:=wr.2 (n - 1 - i) (by omega)
   have hwd:∃ wsd qb,Hx (wd (fw C x B n i).2)=some (.lst wsd)/\wsd[n - 1 - i]?=some (.ref qb)/\Hx qb=some (.lst (wrow (ro C B (fw C x B n i).2 (n - 1 - i)))):=by
    show ∃ wsd qb,Hx (if (fw C x B n i).2=true then wa else wb)=_/\_/\_
    unfold ro
    cases (fw C x B n i).2 with
    | true=>exact ⟨ws,qa,sx _ _ hwa,a1,sx _ _ a2⟩
    | false =>
     obtain ⟨qb,b1,_,b2⟩:=wr'.2 (n - 1 - i) (by omega)
     exact ⟨ws',qb,sx _ _ hwb,b1,sx _ _ b2⟩
   obtain ⟨wsd,qb,d1,d2,d3⟩:=hwd
   refine ⟨_,rfl,_,_,rfl,rfl,?_⟩
   refine ⟨_,rfl,_,rfl,_,_,_,_,rfl,rfl,SqL.of (sx _ _ ha),zas t1,_,rfl,_,rfl,_,_,_,_,rfl,rfl,SqL.of (sx _ _ hwa),by rw [e1]; exact zas a1,_,rfl,_,rfl,_,_,_,_,rfl,rfl,SqL.of d1,by rw [e1]; exact zas d2,_,rfl,?_⟩
   refine ⟨qs,qa,qb,x,wss,stp C (fw C x B n i).1,Wy C (n - 1 - i),ro C B (fw C x B n i).2 (n - 1 - i),_,rfl,t2,t3,by have:=zds h8 (fw C x B n i).1; omega,fun p hp=>zcr gc h1 hp,sx _ _ a2,d3,g1,fun qt H2 s2 hqt => ?_⟩
   dsimp only at hqt
   have lr2:LaysR H2 wl (fnm C x B n) i:=lr.mono fun _ _ e=>s2 _ _ e
   have hr2:=s2 _ _ hrx
   have sx2:=sx.trans s2
   have hwl:=lr2.len
   have nr0:H r=none:=nr
   refine ⟨fun σ Hy=>Same H Hy/\Hy qt=some (.tup [.str (fnm C x B n i),.int (((fw C x B n (i + 1)).1:Nat):Int)])/\∃ wl',Hy r=some (.lst wl')/\LaysR Hy wl' (fnm C x B n) (i + 1) /\ σ = [some (.ref a),some (.ref wa),some (.ref (wd (fw C x B n i).2)),some (.str x),some (.int (((n - i:Nat):Int) - 1)),some (.ref r),some (.int (((fw C x B n i).1:Nat):Int)),some (.int ((i:Nat):Int)),some (.ref qt)],?_,?_⟩
   ·refine ⟨_,rfl,_,_,_,_,rfl,rfl,SqT.of hqt,at0,rfl,_,rfl,?_⟩
    by_cases hz:fnm C x B n i=Str.ofString ""
    ·rw [decide_eq_true (by rw [hz])]
     refine iteF ?_
     exact ⟨sx2,hqt,wl,hr2,lr2.skip hz,rfl⟩
    ·rw [decide_eq_false (fun z=>hz (by injection z))]
     refine iteT ?_
     refine ⟨_,rfl,.inl ⟨rfl,_,SqL.of hr2⟩,_,rfl,_,rfl,_,_,_,_,rfl,rfl,SqT.of hqt,at0,bigr rfl,fun tt ntt => ?_⟩
     have s3:Same H2 (upd H2 tt (.tup [.int ((i:Nat):Int),.str (fnm C x B n i)])):=Same.new ntt
     have htt:upd H2 tt (.tup [.int ((i:Nat):Int),.str (fnm C x B n i)]) tt=some (.tup [.int ((i:Nat):Int),.str (fnm C x B n i)]):=upd_same
     have hr3:=s3 _ _ hr2
     have hqt3:=s3 _ _ hqt
     have lr3:LaysR (upd H2 tt (.tup [.int ((i:Nat):Int),.str (fnm C x B n i)])) wl (fnm C x B n) i:=lr2.mono fun _ _ e=>s3 _ _ e
     generalize upd H2 tt (.tup [.int ((i:Nat):Int),.str (fnm C x B n i)])=H3 at s3 htt hr3 hqt3 lr3 ⊢
     refine ⟨r,_,_,rfl,rfl,hr3,Nat.lt_of_lt_of_le (by omega:wl.length < 1000) zaR,?_⟩
     have kt:∀ qa ys,H3 qa=some (.tup ys)->upd H3 r (.lst (wl ++ [.ref tt])) qa=some (.tup ys):=fun qa ys z=>by rw [zag (fun z2=>by rw [z2,hr3] at z; cases z)]; exact z
     exact ⟨(sx2.trans s3).put nr0,kt _ _ hqt3,_,upd_same,(lr3.mono kt).snoc hz (kt _ _ htt),rfl⟩
   rintro σ Hy ⟨sy,hqy,wl',hry,lry,rfl⟩
   refine ⟨fun σ Hz=>Hz=Hy /\ σ = [some (.ref a),some (.ref wa),some (.ref (wd (fw C x B n (i + 1)).2)),some (.str x),some (.int (((n - i:Nat):Int) - 1)),some (.ref r),some (.int (((fw C x B n i).1:Nat):Int)),some (.int ((i:Nat):Int)),some (.ref qt)],?_,?_⟩
   ·refine ⟨_,rfl,_,_,_,_,rfl,rfl,SqT.of hqy,at0,_,rfl,rfl,_,rfl,?_⟩
    rw [g2]
    by_cases hz:fnm C x B n i=x
    ·rw [decide_eq_true (show V.str (fnm C x B n i)=V.str x by rw [hz]),decide_eq_true hz,Bool.or_true]
     refine iteT ?_
     exact ⟨_,rfl,rfl,rfl⟩
    ·rw [decide_eq_false (show ¬ V.str (fnm C x B n i)=V.str x from fun z=>hz (by injection z)),decide_eq_false hz,Bool.or_false]
     refine iteF ?_
     exact ⟨rfl,rfl⟩
   rintro σ Hz ⟨rfl,rfl⟩
   refine ⟨_,rfl,_,_,_,_,rfl,rfl,SqT.of hqy,at1,?_⟩
   refine ⟨sy,wl',some (.int ((i:Nat):Int)),some (.ref qt),?_,hry,lry⟩
   rw [e1,show n - (i + 1)=n - 1 - i by omega]
   rfl
  ·rintro σ Hx ⟨sx,wl,x7,x8,rfl,hrx,lr⟩
   rw [zbi] at lr
   exact ⟨_,rfl,q r wl Hx sx nr hrx lr⟩
noncomputable def sp_chk (ea:Nat->Addr):Sp:=fun vs H Q E=>∃ n,vs = [.int n]/\(if 0<=n/\n<=200 then Q .non H else E (.ref (ea 13)) none H)
theorem zbJ:FnScope ["length"] ["length"] (defScope s_check_length):=⟨rfl,rfl,rfl,by decide +kernel,rfl,by decide +kernel,by decide +kernel⟩
theorem ok_chk {ea:Nat->Addr} (D:DefAt K mg "check_length" s_check_length) (T:Bn mg) (V_MOST_FILLED:∃ t,mg "MOST_FILLED" = some (.int 200 t)) (O_BadLength:Err K mg "BadLength" (ea 13)):Callee1 P w K mg base "check_length" 1 ["length"] (sp_chk ea):=by
 refine D.callee1 zbJ (fun _ _ _ _ _ _=>ln1 fun _=>rfl) (fun vs H Q E h => ?_) (fun f cdv A outer s H vs Q E hr h => ?_)
 ·obtain ⟨n,rfl,_⟩:=h
  rfl
 ·obtain ⟨n,rfl,q⟩:=h
  have S:=zbJ
  refine ⟨_,zaf (zaG (zbp (zdv zd5 zd5 (zac) (pv 0) (zb0 rfl V_MOST_FILLED)))
   (zaf (zbg O_BadLength rfl (zaa (zap) zab)))
   (zan)),?_⟩
  refine ⟨_,rfl,_,_,rfl,rfl,_,rfl,?_⟩
  refine ite2 (fun h0 => ?_) (fun h0 => ?_)
  rotate_left
  ·have h0:¬ (0:Int)<=n:=by simpa using h0
   rw [if_neg (fun z=>h0 z.1)] at q
   exact ⟨_,rfl,iteT ⟨bigr rfl,q⟩⟩
  have h0:(0:Int)<=n:=by simpa using h0
  refine ⟨_,_,rfl,rfl,_,rfl,?_⟩
  by_cases h1:n<=200
  case neg =>
   rw [if_neg (fun z=>h1 z.2)] at q
   rw [decide_eq_false h1]
   exact iteT ⟨bigr rfl,q⟩
  rw [if_pos ⟨h0,h1⟩] at q
  rw [decide_eq_true h1]
  exact iteF q
noncomputable def sp_ffill (ea:Nat->Addr) (C:Addr):Sp:=fun vs H Q E=>∃ b l G cs past n,vs = [.ref b,.int n]/\Bk C G H b l cs past /\
 (if 0<=n/\n<=200 then (if 0 < Wy (srt cs) n.toNat 0 then ∀ (r:Addr) (wl:List V) (H':Hp),Same H H'->H r=none->H' r=some (.lst wl)->LaysR H' wl (fnm (srt cs) (Str.ofString "") (Wy (srt cs)) n.toNat) n.toNat->Q (.ref r) H' else ∀ H',Same H H'->E (.ref (ea 14)) none H') else E (.ref (ea 13)) none H)
theorem zbE:FnScope ["book","length","table","ways"] ["book","length"] (defScope s_first_filling):=⟨rfl,rfl,rfl,by decide +kernel,rfl,by decide +kernel,by decide +kernel⟩
theorem ok_ffill {ea:Nat->Addr} {C:Addr} (D:DefAt K mg "first_filling" s_first_filling) (T:Bn mg) (C_check_length:Callee1 P w K mg base "check_length" 1 ["length"] (sp_chk ea)) (C_step_table:Callee1 P w K mg base "step_table" 4 ["book"] (sp_table C)) (C_ways_to_close:Callee P w K mg base "ways_to_close" 3 ["table","length"] sp_close) (C_lay_first:Callee1 P w K mg base "lay_first" 3 ["table","ways","wanted","name"] (sp_layf ea)):Callee1 P w K mg base "first_filling" 5 ["book","length"] (sp_ffill ea C):=by
 refine D.callee1 zbE (fun _ _ _ _ _ _=>ln2 fun _ _=>rfl) (fun vs H Q E h => ?_) (fun f cdv A outer s H vs Q E hr h => ?_)
 ·obtain ⟨b,l,G,cs,past,n,rfl,_⟩:=h
  rfl
 ·obtain ⟨b,l,G,cs,past,n,rfl,B,q⟩:=h
  have S:=zbE
  obtain ⟨gc,h8⟩:=zdu B
  refine ⟨_,zad (zaI (zbj C_check_length (hr.mono (by decide)) (by first | exact zaq | exact zbh | exact zaA) rfl (zaa (pv 1) zab)))
  (zad (zam (i:=2) S.nd rfl (Or.inl rfl) (zbj C_step_table (hr.mono (by decide)) (by first | exact zaq | exact zbh | exact zaA) rfl (zaa (pv 0) zab)))
  (zad (zam (i:=3) S.nd rfl (Or.inl rfl) (zaD C_ways_to_close (hr.mono (by decide)) rfl (zaa (pv 2) (zaa (pv 1) zab))))
  (zaf (zaj (zbj C_lay_first (hr.mono (by decide)) (by first | exact zaq | exact zbh | exact zaA) rfl (zaa (pv 2) (zaa (pv 3) (zaa (pv 3) (zaa (zap) zab))))))))),?_⟩
  refine ⟨_,rfl,n,rfl,?_⟩
  by_cases hn:0<=n/\n<=200
  case neg =>
   rw [if_neg hn] at q ⊢
   exact q
  rw [if_pos hn] at q ⊢
  obtain ⟨k,rfl⟩:=Int.eq_ofNat_of_zero_le hn.1
  rw [show ((k:Nat):Int).toNat=k by omega] at q
  refine ⟨_,rfl,b,l,G,cs,past,rfl,B,fun a H1 ts s1 na ha tb => ?_⟩
  refine ⟨_,rfl,_,rfl,a,ts,srt cs,k,rfl,ha,tb,gc,h8,by omega,fun r ws H2 s2 hr2 wr => ?_⟩
  have s12:=s1.trans s2
  refine ⟨_,rfl,_,rfl,_,rfl,a,r,r,Str.ofString "",ts,ws,ws,srt cs,k,Wy (srt cs),rfl,s2 _ _ ha,tb.same s2,gc,h8,by omega,hr2,wr,hr2,wr,zgl _ _,?_⟩
  by_cases hw:0 < Wy (srt cs) k 0
  ·rw [if_pos hw] at q ⊢
   intro p wl H3 s3 np hp lr
   exact q p wl H3 (s12.trans s3) (s12.free np) hp lr
  ·rw [if_neg hw] at q ⊢
   exact q H2 s12
theorem cut_last {ws:List V} {n:Nat} (h:ws.length=n + 1):cutV ws none (some (-1))=ws.take n:=by
 unfold cutV
 rw [h]
 show List.take ((if (-1:Int) < 0 then ((-1:Int) + ((n + 1:Nat):Int)).toNat else min (-1:Int).toNat (n + 1)) - 0) (ws.drop 0)=_
 rw [if_pos (by decide),List.drop_zero]
 congr 1
 omega
noncomputable def sp_layw:Sp:=fun vs H Q _=>∃ (a wa:Addr) (x:Str) (ts ws:List V) (C:Combs) (n:Nat),vs = [.ref a,.ref wa,.str x]/\H a=some (.lst ts)/\TabR H ts C/\GC C/\C.length<=8/\n<=200/\H wa=some (.lst ws)/\WaysR (fun _=>True) H ws (Wy C) n/\∀ (r:Addr) (ws':List V) (H':Hp),Same H H'->H' r=some (.lst ws')->WaysR (fun _=>True) H' ws' (Ww C x) n->Q (.ref r) H'
theorem zbU:FnScope ["table","ways","name","rows","row"] ["table","ways","name"] (defScope s_ways_to_lay):=⟨rfl,rfl,rfl,by decide +kernel,rfl,by decide +kernel,by decide +kernel⟩
theorem ok_layw (D:DefAt K mg "ways_to_lay" s_ways_to_lay) (T:Bn mg) (C_ways_from:Callee P w K mg base "ways_from" 2 ["steps","ways","wanted","name"] sp_from):Callee P w K mg base "ways_to_lay" 3 ["table","ways","name"] sp_layw:=by
 refine D.callee zbU (fun _ _ _ _ _ _=>ln3 fun _ _ _=>rfl) (fun vs H Q E h => ?_) (fun f cdv A outer s H vs Q E hr h => ?_)
 ·obtain ⟨a,wa,x,ts,ws,C,n,rfl,_⟩:=h
  rfl
 ·obtain ⟨a,wa,x,ts,wsA,C,n,rfl,ha,tb,gc,h8,hn,hwa,wrA,q⟩:=h
  have S:=zbU
  have htl:=tb.1
  refine ⟨_,zad (zam (i:=3) S.nd rfl (Or.inr rfl) (zaN (zaa (zaU (own := ["steps"]) (caps := []) rfl ⟨rfl,rfl,rfl,rfl,trivial⟩ (zar (pv 0)) (fun _ _ _ _ _ _=>zai (i:=0) (zaM (by decide +kernel)) rfl (Or.inl rfl)) (fun _ _ _ _ _ _=>za8) (fun _ _ _ _ _ _=>zac)) zab)))
  (zad (zaT PassesOwn.never rfl (zar (zfg zfA (pv 1) (zfR) (zfQ (zfS zdT (zac))))) (zai (i:=4) S.nd rfl (Or.inr rfl))
   (zaf (zaI (zcl PySem.F.plainAttrs_list PySem.F.slot_list_append PySem.F.type_list_append zaH (pv 3) (zaa (zaU (own := ["steps"]) (caps := [(4,"row"),(3,"rows"),(2,"name")]) rfl ⟨rfl,rfl,rfl,rfl,⟨⟨rfl,rfl,.inl rfl⟩,⟨rfl,rfl,.inl rfl⟩,⟨rfl,rfl,.inl rfl⟩,trivial⟩⟩ (zar (pv 0)) (fun _ _ _ _ _ _=>zai (i:=0) (zaM (by decide +kernel)) rfl (Or.inl rfl)) (fun _ _ _ _ _ _=>za8) (fun _ _ _ _ _ _=>zaD C_ways_from (hr.mono (by decide)) rfl (zaa (pv 0) (zaa (pv 1) (zaa (zaz (zbS K rfl) (pv 2) (zfS zdT (zac)) (fun _ _=>rfl)) (zaa (pv 3) zab)))))) zab)))))
  (zaf (zaj (pv 3)))),?_⟩
  refine ⟨_,rfl,_,rfl,⟨_,SqL.of ha⟩,fun D hD => ?_⟩
  refine zbY (capv := []) (by rfl) (zak K a ts) (big (by omega)) hD (fun H' s'=>SqL.of (s' _ _ ha)) (fun _=>true) (fun _=>V.int 0) (fun x hx H' R s' h=>h H' (Same.refl _)) (fun x hx _ H' R s' h=>h H' (Same.refl _)) ?_
  intro H1 s1 e1
  have e1':H1 D=some (.lst (wrow (Ww C x 0))):=by
   rw [e1,List.filter_eq_self.mpr (fun _ _=>rfl)]
   unfold wrow
   congr 2
   refine List.ext_getElem (by rw [List.length_map,List.length_map,List.length_range]; omega) fun i h1 h2 => ?_
   rw [List.getElem_map,List.getElem_map]
   rfl
  refine ⟨bigr rfl,fun r nr => ?_⟩
  have s2:Same H1 (upd H1 r (.lst [.ref D])):=Same.new nr
  have hr2:upd H1 r (.lst [.ref D]) r=some (.lst [.ref D]):=upd_same
  have hD2:=s2 _ _ e1'
  have hDr:D≠r:=fun z=>by rw [<- z,e1'] at nr; cases nr
  have s12:=s1.trans s2
  have nr0:=s1.free nr
  generalize upd H1 r (.lst [.ref D])=H2 at s12 hr2 hD2 ⊢
  refine ⟨_,rfl,_,rfl,_,rfl,_,_,rfl,SqL.of (s12 _ _ hwa),fun sl nsl => ?_⟩
  rw [cut_last wrA.1]
  have s3:Same H2 (upd H2 sl (.lst (wsA.take n))):=Same.new nsl
  have hsl:upd H2 sl (.lst (wsA.take n)) sl=some (.lst (wsA.take n)):=upd_same
  have hslr:sl≠r:=fun z=>by rw [z,hr2] at nsl; cases nsl
  have hr3:=s3 _ _ hr2
  have hD3:=s3 _ _ hD2
  have s13:=s12.trans s3
  generalize upd H2 sl (.lst (wsA.take n))=H3 at s13 hsl hr3 hD3 ⊢
  have hlen:(wsA.take n).length=n:=by rw [List.length_take,wrA.1]; omega
  refine ⟨_,rfl,⟨_,SqL.of hsl⟩,?_⟩
  refine zbl (zak K sl (wsA.take n)) (fun i σ Hx=>Same H Hx/\Hx sl=some (.lst (wsA.take n))/\∃ (ws:List V) (x4:Option V),σ = [some (.ref a),some (.ref wa),some (.str x),some (.ref r),x4]/\Hx r=some (.lst ws)/\WaysR (fun z=>z≠r) Hx ws (Ww C x) i) ⟨s13,hsl,[.ref D],_,rfl,hr3,rfl,fun k hk=>by
    have:k=0:=by omega
    subst this
    exact ⟨D,rfl,hDr,hD3⟩⟩ (fun u σ Hz _ h=>SqL.of h.2.1) ?_ ?_
  ·rintro i y σ Hx hy ⟨sx,hslx,ws,x4,rfl,hrx,wr⟩
   have hi':i < n:=by rw [<- hlen]; exact (List.getElem?_eq_some_iff.mp hy).1
   obtain ⟨qa,eqa,_,hqa⟩:=wrA.2 i (by omega)
   rw [List.getElem?_take,if_pos hi',eqa] at hy
   cases hy
   obtain ⟨qk,eqk,_,hqk⟩:=wr.2 i (Nat.le_refl _)
   have hat:atI ws (-1)=some (.ref qk):=zgM wr.1 eqk
   refine ⟨_,rfl,.inl ⟨rfl,_,SqL.of hrx⟩,_,rfl,_,rfl,⟨_,SqL.of (sx _ _ ha)⟩,fun D2 hD2 => ?_⟩
   refine zdl (capv := [some (.ref qa),some (.ref r),some (.str x)]) (by rfl) (zak K a ts) (big (by omega)) hD2 (fun H' s'=>SqL.of (s' _ _ (sx _ _ ha))) (fun _=>true) (fun s=>V.int ((Ww C x (i + 1) s:Nat):Int)) (fun _ _ _=>nofun) (fun u y hy H' R s' h=>h H' (Same.refl _)) ?_ ?_
   ·intro u y hy _ H' R s' h
    have hu:u < 128:=by rw [<- htl]; exact (List.getElem?_eq_some_iff.mp hy).1
    obtain ⟨qs,wss,e1,e2,e3⟩:=(tb.same (sx.trans s')).2 u hu
    rw [hy] at e1
    cases e1
    refine ⟨_,rfl,_,rfl,_,rfl,_,rfl,_,_,_,_,rfl,rfl,SqL.of (s' _ _ hrx),hat,_,rfl,?_⟩
    refine ⟨qs,qa,qk,x,wss,stp C u,Wy C i,Ww C x i,rfl,e2,e3,by have:=zds h8 u; omega,fun p hp=>zcr gc hu hp,s' _ _ (sx _ _ hqa),s' _ _ hqk,fun H'' s'' => ?_⟩
    exact h H'' s''
   intro H4 s4 e4
   have hr4:=s4 _ _ hrx
   have hD2r:D2≠r:=fun z=>by rw [z,hrx] at hD2; cases hD2
   have e4':H4 D2=some (.lst (wrow (Ww C x (i + 1)))):=by
    rw [e4,List.filter_eq_self.mpr (fun _ _=>rfl),htl]
    rfl
   refine ⟨r,_,_,rfl,rfl,hr4,Nat.lt_of_lt_of_le (by have:=wr.1; omega:ws.length < 1000) zaR,?_⟩
   refine ⟨(sx.trans s4).put nr0,by rw [zag hslr]; exact s4 _ _ hslx,_,_,rfl,upd_same,?_⟩
   exact (WaysR.mono wr (fun _ z=>z) fun z o hz e=>by rw [zag hz]; exact s4 _ _ e).snoc (by rw [zag hD2r]; exact e4') hD2r
  ·rintro σ Hx ⟨sx,hslx,ws,x4,rfl,hrx,wr⟩
   rw [hlen] at wr
   exact ⟨_,rfl,q r ws Hx sx hrx (wr.mono (fun _ _=>trivial) fun _ _ _ e=>e)⟩
noncomputable def sp_ffillw (ea:Nat->Addr) (C:Addr):Sp:=fun vs H Q E=>∃ b l G cs past x n,vs = [.ref b,.str x,.int n]/\Bk C G H b l cs past /\
 (if (cGet cs x).isSome=true then (if 0<=n/\n<=200 then (if 0 < Ww (srt cs) x n.toNat 0 then ∀ (r:Addr) (wl:List V) (H':Hp),Same H H'->H r=none->H' r=some (.lst wl)->LaysR H' wl (fnm (srt cs) x (Ww (srt cs) x) n.toNat) n.toNat->Q (.ref r) H' else ∀ H',Same H H'->E (.ref (ea 14)) none H') else E (.ref (ea 13)) none H) else E (.ref (ea 4)) none H)
theorem zba:FnScope ["book","name","length","table","ways"] ["book","name","length"] (defScope s_first_filling_with):=⟨rfl,rfl,rfl,by decide +kernel,rfl,by decide +kernel,by decide +kernel⟩
theorem ok_ffillw {ea:Nat->Addr} {C:Addr} (D:DefAt K mg "first_filling_with" s_first_filling_with) (T:Bn mg) (BA:BookAt K C) (M_check_comb:Method P w K mg base C "check_comb" (CX1 P w) 1 ["self","name"] (sp_check ea C)) (C_check_length:Callee1 P w K mg base "check_length" 1 ["length"] (sp_chk ea)) (C_step_table:Callee1 P w K mg base "step_table" 4 ["book"] (sp_table C)) (C_ways_to_close:Callee P w K mg base "ways_to_close" 3 ["table","length"] sp_close) (C_ways_to_lay:Callee P w K mg base "ways_to_lay" 3 ["table","ways","name"] sp_layw) (C_lay_first:Callee1 P w K mg base "lay_first" 3 ["table","ways","wanted","name"] (sp_layf ea)):Callee1 P w K mg base "first_filling_with" 5 ["book","name","length"] (sp_ffillw ea C):=by
 refine D.callee1 zba (fun _ _ _ _ _ _=>ln3 fun _ _ _=>rfl) (fun vs H Q E h => ?_) (fun f cdv A outer s H vs Q E hr h => ?_)
 ·obtain ⟨b,l,G,cs,past,x,n,rfl,_⟩:=h
  rfl
 ·obtain ⟨b,l,G,cs,past,x,n,rfl,B,q⟩:=h
  have S:=zba
  have B_cls:=BA.cls
  obtain ⟨gc,h8⟩:=zdu B
  obtain ⟨dx,d,hb,_⟩:=id B.ins
  refine ⟨_,zad (zaI (zeA (pv 0) B_cls M_check_comb (hr.mono (by decide)) (by first | exact zc1 | exact zaq | exact zbh | exact zaA) (zaa (pv 1) zab)))
  (zad (zaI (zbj C_check_length (hr.mono (by decide)) (by first | exact zaq | exact zbh | exact zaA) rfl (zaa (pv 2) zab)))
  (zad (zam (i:=3) S.nd rfl (Or.inl rfl) (zbj C_step_table (hr.mono (by decide)) (by first | exact zaq | exact zbh | exact zaA) rfl (zaa (pv 0) zab)))
  (zad (zam (i:=4) S.nd rfl (Or.inl rfl) (zaD C_ways_to_close (hr.mono (by decide)) rfl (zaa (pv 3) (zaa (pv 2) zab))))
  (zaf (zaj (zbj C_lay_first (hr.mono (by decide)) (by first | exact zaq | exact zbh | exact zaA) rfl (zaa (pv 3) (zaa (pv 4) (zaa (zaD C_ways_to_lay (hr.mono (by decide)) rfl (zaa (pv 3) (zaa (pv 4) (zaa (pv 1) zab)))) (zaa (pv 1) zab)))))))))),?_⟩
  refine ⟨_,rfl,_,_,_,rfl,hb,rfl,_,rfl,b,l,G,cs,past,x,rfl,B,?_⟩
  by_cases hx:(cGet cs x).isSome=true
  case neg =>
   rw [if_neg hx] at q ⊢
   exact q
  rw [if_pos hx] at q ⊢
  refine ⟨_,rfl,n,rfl,?_⟩
  by_cases hn:0<=n/\n<=200
  case neg =>
   rw [if_neg hn] at q ⊢
   exact q
  rw [if_pos hn] at q ⊢
  obtain ⟨k,rfl⟩:=Int.eq_ofNat_of_zero_le hn.1
  rw [show ((k:Nat):Int).toNat=k by omega] at q
  refine ⟨_,rfl,b,l,G,cs,past,rfl,B,fun a H1 ts s1 na ha tb => ?_⟩
  refine ⟨_,rfl,_,rfl,a,ts,srt cs,k,rfl,ha,tb,gc,h8,by omega,fun r ws H2 s2 hr2 wr => ?_⟩
  have s12:=s1.trans s2
  refine ⟨_,rfl,_,rfl,_,rfl,_,rfl,_,rfl,a,r,x,ts,ws,srt cs,k,rfl,s2 _ _ ha,tb.same s2,gc,h8,by omega,hr2,wr,fun r' ws' H3 s3 hr3 wr' => ?_⟩
  have s13:=s12.trans s3
  have wr3:WaysR (fun _=>True) H3 ws (Wy (srt cs)) k:=wr.mono (fun _ z=>z) fun _ _ _ e=>s3 _ _ e
  refine ⟨_,rfl,a,r,r',x,ts,ws,ws',srt cs,k,Ww (srt cs) x,rfl,s3 _ _ (s2 _ _ ha),tb.same (s2.trans s3),gc,h8,by omega,s3 _ _ hr2,wr3,hr3,wr',zgX _ _,?_⟩
  by_cases hw:0 < Ww (srt cs) x k 0
  ·rw [if_pos hw] at q ⊢
   intro p wl H4 s4 np hp lr
   exact q p wl H4 (s13.trans s4) (s13.free np) hp lr
  ·rw [if_neg hw] at q ⊢
   exact q H3 s13
noncomputable def sp_count (ea:Nat->Addr) (C:Addr):Sp:=fun vs H Q E=>∃ b l G cs past n,vs = [.ref b,.int n]/\Bk C G H b l cs past /\
 (if 0<=n/\n<=200 then ∀ H',Same H H'->Q (.int ((Wy (srt cs) n.toNat 0:Nat):Int)) H' else E (.ref (ea 13)) none H)
theorem zbu:FnScope ["book","length"] ["book","length"] (defScope s_count_fillings):=⟨rfl,rfl,rfl,by decide +kernel,rfl,by decide +kernel,by decide +kernel⟩
theorem ok_count {ea:Nat->Addr} {C:Addr} (D:DefAt K mg "count_fillings" s_count_fillings) (T:Bn mg) (C_check_length:Callee1 P w K mg base "check_length" 1 ["length"] (sp_chk ea)) (C_step_table:Callee1 P w K mg base "step_table" 4 ["book"] (sp_table C)) (C_ways_to_close:Callee P w K mg base "ways_to_close" 3 ["table","length"] sp_close):Callee1 P w K mg base "count_fillings" 5 ["book","length"] (sp_count ea C):=by
 refine D.callee1 zbu (fun _ _ _ _ _ _=>ln2 fun _ _=>rfl) (fun vs H Q E h => ?_) (fun f cdv A outer s H vs Q E hr h => ?_)
 ·obtain ⟨b,l,G,cs,past,n,rfl,_⟩:=h
  rfl
 ·obtain ⟨b,l,G,cs,past,n,rfl,B,q⟩:=h
  have S:=zbu
  obtain ⟨gc,h8⟩:=zdu B
  refine ⟨_,zad (zaI (zbj C_check_length (hr.mono (by decide)) (by first | exact zaq | exact zbh | exact zaA) rfl (zaa (pv 1) zab)))
  (zaf (zaj (zaz zaC (zaz zaC (zaD C_ways_to_close (hr.mono (by decide)) rfl (zaa (zbj C_step_table (hr.mono (by decide)) (by first | exact zaq | exact zbh | exact zaA) rfl (zaa (pv 0) zab)) (zaa (pv 1) zab))) (pv 1) (fun _ _=>rfl)) (zac) (fun _ _=>rfl)))),?_⟩
  refine ⟨_,rfl,n,rfl,?_⟩
  by_cases hn:0<=n/\n<=200
  case neg =>
   rw [if_neg hn] at q ⊢
   exact q
  rw [if_pos hn] at q ⊢
  obtain ⟨k,rfl⟩:=Int.eq_ofNat_of_zero_le hn.1
  rw [show ((k:Nat):Int).toNat=k by omega] at q
  refine ⟨_,rfl,b,l,G,cs,past,rfl,B,fun a H1 ts s1 na ha tb => ?_⟩
  refine ⟨_,rfl,a,ts,srt cs,k,rfl,ha,tb,gc,h8,by omega,fun r ws H2 s2 hr2 wr => ?_⟩
  obtain ⟨qk,e1,_,e2⟩:=wr.2 k (Nat.le_refl _)
  exact ⟨_,rfl,_,_,_,_,rfl,rfl,SqL.of hr2,zas e1,_,_,_,_,rfl,rfl,SqL.of e2,(show atI (wrow (Wy (srt cs) k)) ((0:Nat):Int)=_ from zdn _ (by decide)),q H2 (s1.trans s2)⟩
noncomputable def sp_countw (ea:Nat->Addr) (C:Addr):Sp:=fun vs H Q E=>∃ b l G cs past x n,vs = [.ref b,.str x,.int n]/\Bk C G H b l cs past /\
 (if (cGet cs x).isSome=true then (if 0<=n/\n<=200 then ∀ H',Same H H'->Q (.int ((Ww (srt cs) x n.toNat 0:Nat):Int)) H' else E (.ref (ea 13)) none H) else E (.ref (ea 4)) none H)
theorem za3:FnScope ["book","name","length","table"] ["book","name","length"] (defScope s_count_fillings_with):=⟨rfl,rfl,rfl,by decide +kernel,rfl,by decide +kernel,by decide +kernel⟩
theorem ok_countw {ea:Nat->Addr} {C:Addr} (D:DefAt K mg "count_fillings_with" s_count_fillings_with) (T:Bn mg) (BA:BookAt K C) (M_check_comb:Method P w K mg base C "check_comb" (CX1 P w) 1 ["self","name"] (sp_check ea C)) (C_check_length:Callee1 P w K mg base "check_length" 1 ["length"] (sp_chk ea)) (C_step_table:Callee1 P w K mg base "step_table" 4 ["book"] (sp_table C)) (C_ways_to_close:Callee P w K mg base "ways_to_close" 3 ["table","length"] sp_close) (C_ways_to_lay:Callee P w K mg base "ways_to_lay" 3 ["table","ways","name"] sp_layw):Callee1 P w K mg base "count_fillings_with" 5 ["book","name","length"] (sp_countw ea C):=by
 refine D.callee1 za3 (fun _ _ _ _ _ _=>ln3 fun _ _ _=>rfl) (fun vs H Q E h => ?_) (fun f cdv A outer s H vs Q E hr h => ?_)
 ·obtain ⟨b,l,G,cs,past,x,n,rfl,_⟩:=h
  rfl
 ·obtain ⟨b,l,G,cs,past,x,n,rfl,B,q⟩:=h
  have S:=za3
  have B_cls:=BA.cls
  obtain ⟨gc,h8⟩:=zdu B
  obtain ⟨dx,d,hb,_⟩:=id B.ins
  refine ⟨_,zad (zaI (zeA (pv 0) B_cls M_check_comb (hr.mono (by decide)) (by first | exact zc1 | exact zaq | exact zbh | exact zaA) (zaa (pv 1) zab)))
  (zad (zaI (zbj C_check_length (hr.mono (by decide)) (by first | exact zaq | exact zbh | exact zaA) rfl (zaa (pv 2) zab)))
  (zad (zam (i:=3) S.nd rfl (Or.inl rfl) (zbj C_step_table (hr.mono (by decide)) (by first | exact zaq | exact zbh | exact zaA) rfl (zaa (pv 0) zab)))
  (zaf (zaj (zaz zaC (zaz zaC (zaD C_ways_to_lay (hr.mono (by decide)) rfl (zaa (pv 3) (zaa (zaD C_ways_to_close (hr.mono (by decide)) rfl (zaa (pv 3) (zaa (pv 2) zab))) (zaa (pv 1) zab)))) (pv 2) (fun _ _=>rfl)) (zac) (fun _ _=>rfl)))))),?_⟩
  refine ⟨_,rfl,_,_,_,rfl,hb,rfl,_,rfl,b,l,G,cs,past,x,rfl,B,?_⟩
  by_cases hx:(cGet cs x).isSome=true
  case neg =>
   rw [if_neg hx] at q ⊢
   exact q
  rw [if_pos hx] at q ⊢
  refine ⟨_,rfl,n,rfl,?_⟩
  by_cases hn:0<=n/\n<=200
  case neg =>
   rw [if_neg hn] at q ⊢
   exact q
  rw [if_pos hn] at q ⊢
  obtain ⟨k,rfl⟩:=Int.eq_ofNat_of_zero_le hn.1
  rw [show ((k:Nat):Int).toNat=k by omega] at q
  refine ⟨_,rfl,b,l,G,cs,past,rfl,B,fun a H1 ts s1 na ha tb => ?_⟩
  refine ⟨_,rfl,_,rfl,_,rfl,a,ts,srt cs,k,rfl,ha,tb,gc,h8,by omega,fun r ws H2 s2 hr2 wr => ?_⟩
  have s12:=s1.trans s2
  refine ⟨_,rfl,a,r,x,ts,ws,srt cs,k,rfl,s2 _ _ ha,tb.same s2,gc,h8,by omega,hr2,wr,fun r' ws' H3 s3 hr3 wr' => ?_⟩
  obtain ⟨qk,e1,_,e2⟩:=wr'.2 k (Nat.le_refl _)
  exact ⟨_,rfl,_,_,_,_,rfl,rfl,SqL.of hr3,zas e1,_,_,_,_,rfl,rfl,SqL.of e2,(show atI (wrow (Ww (srt cs) x k)) ((0:Nat):Int)=_ from zdn _ (by decide)),q H3 (s12.trans s3)⟩
noncomputable def sp_lteeth:Sp:=fun vs H Q _=>∃ (k:Addr) (x:Str) (ws:List V) (ks:Combs) (ts:List Int) (G:Addr->Prop),vs = [.ref k,.str x]/\H k=some (.lst ws)/\Drawn G H ws ks/\cGet ks x=some ts/\∀ t,G t->H t=some (.lst (ts.map V.int))->Q (.ref t) H
theorem ze5:FnScope ["_law_kinds","_law_word_here","_law_name","_law_teeth_here"] ["_law_kinds","_law_word_here"] (defScope s_teeth):=⟨rfl,rfl,rfl,by decide +kernel,rfl,by decide +kernel,by decide +kernel⟩
theorem ok_lteeth (D:DefAt K mg "_law_teeth" s_teeth) (T:Bn mg):Callee P w K mg base "_law_teeth" 1 ["_law_kinds","_law_word_here"] sp_lteeth:=by
 refine D.callee ze5 (fun _ _ _ _ _ _=>ln2 fun _ _=>rfl) (fun vs H Q E h => ?_) (fun f cdv A outer s H vs Q E hr h => ?_)
 ·obtain ⟨k,x,ws,ks,ts,G,rfl,_⟩:=h
  rfl
 ·obtain ⟨k,x,ws,ks,ts,G,rfl,hk,dr,hg,q⟩:=h
  have S:=ze5
  have hlen:=dr.rows.length
  refine ⟨_,zad (zaT PassesOwn.never rfl (zar (pv 0)) (zff rfl (zax (zai (i:=2) S.nd rfl (Or.inl rfl)) (zax (zai (i:=3) S.nd rfl (Or.inl rfl)) (zbs))))
   (zaf (zaG (zao zbT (pv 2) (pv 1) (zat _))
    (zaf (zaj (pv 3)))
    (zan))))
  (zaf (zaj (zaN (zab)))),?_⟩
  refine ⟨_,rfl,_,rfl,⟨_,SqL.of hk⟩,?_⟩
  refine zbl (zak K k ws) (fun i σ Hx=>Hx=H/\(∀ c∈ks.take i,c.1≠x)/\∃ x2 x3,σ = [some (.ref k),some (.str x),x2,x3]) ⟨rfl,by simp,_,_,rfl⟩ (fun i σ Hx _ h=>by rw [h.1]; exact SqL.of hk) ?_ ?_
  ·rintro i y σ Hx hx ⟨rfl,hno,x2,x3,rfl⟩
   obtain ⟨c,qa,t,hc,rfl,hq,ht,hgt⟩:=dr.rows.getG hx
   refine ⟨qa,_,rfl,SqL.of hq,rfl,_,_,rfl,_,_,rfl,rfl,?_⟩
   refine ⟨_,rfl,_,rfl,rfl,_,rfl,?_⟩
   by_cases e:c.1=x
   ·rw [decide_eq_true (by rw [e])]
    refine iteT ?_
    have:=zcm dr.nd (List.mem_of_getElem? hc)
    rw [e,hg] at this
    refine ⟨_,rfl,q t hgt ?_⟩
    rw [ht,Option.some.inj this]
   ·rw [decide_eq_false (fun z=>e (by injection z))]
    refine iteF ?_
    refine ⟨rfl,fun c' hc' => ?_,_,_,rfl⟩
    rw [zaE hc] at hc'
    rcases List.mem_append.mp hc' with z | z
    ·exact hno c' z
    ·rw [List.mem_singleton.mp z]; exact e
  ·rintro σ Hx ⟨rfl,hno,x2,x3,rfl⟩
   rw [List.take_of_length_le (by omega)] at hno
   exact absurd rfl (hno _ (zdJ hg))
noncomputable def ovV (ks:Combs) (l:List (Nat×Str)) (m:Nat):List V:=(List.range m).map fun q=>V.int ((cov ks l q:Nat):Int)
noncomputable def sp_covers:Sp:=fun vs H Q _=>∃ (k l:Addr) (n:Nat) (ws wl:List V) (ks:Combs) (ly:List (Nat×Str)),vs = [.ref k,.ref l,.int (n:Nat)]/\H k=some (.lst ws)/\Drawn (fun _=>True) H ws ks/\H l=some (.lst wl)/\LyR H wl ly/\n<=1000/\Lay ks ly/\Cover ks ly n/\ly.Pairwise (fun x y=>x.1 < y.1)/\∀ H',Same H H'->Q (.bl true) H'
theorem eqv_nilC {d:PyData} {ds:List PyData}:PyData.eqv (.list (d :: ds)) (.list [])=false:=by simp [PyData.eqv,PyData.eqvAll]
theorem shaped_intsC (a:List Int):SeqAt.shaped (.list (a.map PyData.int))=true:=by
 have h1:PyData.canLayAll0 (a.map PyData.int)=true:=by
  induction a with
  | nil=>rfl
  | cons x a ih=>rw [List.map_cons,PyData.canLayAll0,ih]; rfl
 have h2:∀ a:List Int,PyData.depthAll (a.map PyData.int)=0:=by
  intro a
  induction a with
  | nil=>rfl
  | cons x a ih=>rw [List.map_cons,PyData.depthAll,ih]; rfl
 simp [SeqAt.shaped,PyData.canLay0,PyData.depth,h1,h2]
theorem rep_oneC (m:Nat) (v:V):(List.replicate m [v]).flatten=List.replicate m v:=by
 induction m with
 | zero=>rfl
 | succ m ih=>rw [List.replicate_succ,List.flatten_cons,ih,List.replicate_succ]; rfl
theorem zdY:FnScope ["_law_kinds","_law_layings_here","_law_length","_law_over","_law_last","_law_place","_law_word_here","_law_teeth_here","_law_t"] ["_law_kinds","_law_layings_here","_law_length"] (defScope s_covers):=⟨rfl,rfl,rfl,by decide +kernel,rfl,by decide +kernel,by decide +kernel⟩
theorem ok_covers (D:DefAt K mg "_law_covers" s_covers) (T:Bn mg) (C_teeth:Callee P w K mg base "_law_teeth" 1 ["_law_kinds","_law_word_here"] sp_lteeth):Callee P w K mg base "_law_covers" 2 ["_law_kinds","_law_layings_here","_law_length"] sp_covers:=by
 refine D.callee zdY (fun _ _ _ _ _ _=>ln3 fun _ _ _=>rfl) (fun vs H Q E h => ?_) (fun f cdv A outer s H vs Q E hr h => ?_)
 ·obtain ⟨k,l,n,ws,wl,ks,ly,rfl,_⟩:=h
  rfl
 ·obtain ⟨k,l,n,ws,wl,ks,ly,rfl,hk,dr,hl,lr,hn,hlay,hcov,hup,q⟩:=h
  have S:=zdY
  have gc:GC ks:=fun c hc=>(dr.good c hc).2
  have hll:=Paired.length lr
  refine ⟨_,zad (zam (i:=3) S.nd rfl (Or.inl rfl) (zav op_rep (zaN (zaa (zac) zab)) (pv 2)))
  (zad (zam (i:=4) S.nd rfl (Or.inl rfl) (zfS zdT (zac)))
  (zad (zaT PassesOwn.never rfl (zar (pv 1)) (zdh rfl (zax (zai (i:=5) S.nd rfl (Or.inl rfl)) (zax (zai (i:=6) S.nd rfl (Or.inl rfl)) (zbs))))
   (zad (zam (i:=7) S.nd rfl (Or.inl rfl) (zaD C_teeth (hr.mono (by decide)) rfl (zaa (pv 0) (zaa (pv 6) zab))))
   (zad (zaG (PW.pt (zfv (zao zd5 (pv 5) (pv 4) (zat _)) (zfc (zao (zfl hr.units) (pv 7) (zaN (zab)) (zat _)))))
    (zaf (zaj (zbI)))
    (zan))
   (zad (zam (i:=4) S.nd rfl (Or.inl rfl) (pv 5))
   (zaf (zaT PassesOwn.never rfl (zar (pv 7)) (zai (i:=8) S.nd rfl (Or.inl rfl))
    (zad (zaG (zao zgR (zav zbr (pv 5) (pv 8)) (pv 2) (zat _))
     (zaf (zaj (zbI)))
     (zan))
    (zaf (zgs (zav zbr (zaz zaC (pv 3) (zav zbr (pv 5) (pv 8)) (fun _ _=>rfl)) (zac)) (zgu (pv 3) (zav zbr (pv 5) (pv 8)) ze2))))))))))
  (zaf (zaj (zah (zdN rfl) rfl T.n_all boot_all (zaa (zaU (own := ["_law_many"]) (caps := []) rfl ⟨rfl,rfl,rfl,rfl,trivial⟩ (zar (pv 3)) (fun _ _ _ _ _ _=>zai (i:=0) (zaM (by decide +kernel)) rfl (Or.inl rfl)) (fun _ _ _ _ _ _=>za8) (fun _ _ _ _ _ _=>zcJ zbT (pv 0) (zac) (zat _))) zab)))))),?_⟩
  refine ⟨bigr rfl,fun z nz=>⟨_,rfl,_,_,_,rfl,rfl,upd_same,by omega,by omega,?_,fun po npo => ?_⟩⟩
  ·rw [List.length_singleton]; exact Nat.le_trans (by omega:_<=1000) zaR
  have s1:Same H (upd (upd H z (.lst [.int 0])) po (.lst (List.replicate ((n:Nat):Int).toNat [V.int 0]).flatten)):=(Same.new nz).trans (Same.new npo)
  have hpo:upd (upd H z (.lst [.int 0])) po (.lst (List.replicate ((n:Nat):Int).toNat [V.int 0]).flatten) po=some (.lst (ovV ks (ly.take 0) n)):=by
   rw [upd_same,rep_oneC,show ((n:Nat):Int).toNat=n by omega]
   congr 2
   refine (List.eq_replicate_iff.mpr ⟨by unfold ovV; rw [List.length_map,List.length_range],fun b hb => ?_⟩).symm
   obtain ⟨p,_,rfl⟩:=List.mem_map.mp hb
   rfl
  have npo0:H po=none:=(Same.new nz).free npo
  generalize upd (upd H z (.lst [.int 0])) po (.lst (List.replicate ((n:Nat):Int).toNat [V.int 0]).flatten)=H1 at s1 hpo ⊢
  refine ⟨_,rfl,?_⟩
  refine ⟨_,rfl,_,rfl,⟨_,SqL.of (s1 _ _ hl)⟩,?_⟩
  refine zbl (zak K l wl) (fun i σ Hx=>Same H Hx/\∃ (last:Int) (x5 x6 x7 x8:Option V),σ = [some (.ref k),some (.ref l),some (.int (n:Nat)),some (.ref po),some (.int last),x5,x6,x7,x8]/\Hx po=some (.lst (ovV ks (ly.take i) n))/\∀ j x,i<=j->ly[j]?=some x->last < ((x.1:Nat):Int)) ⟨s1,-1,_,_,_,_,rfl,hpo,fun j x _ _=>by omega⟩ (fun i σ Hx _ h=>SqL.of (h.1 _ _ hl)) ?_ ?_
  ·rintro i x σ Hx hx ⟨sx,last,x5,x6,x7,x8,rfl,hpx,hlast⟩
   obtain ⟨⟨j,nmj⟩,ej,qa,rfl,hqa⟩:=Paired.rev lr hx
   have hmem:=List.mem_of_getElem? ej
   have hjn:=hlay _ hmem
   have hlt:=hlast i _ (Nat.le_refl _) ej
   dsimp only at hjn hqa hlt
   obtain ⟨⟨nm',ts⟩,hc,rfl⟩:=List.mem_map.mp hjn
   have hts:=zcm dr.nd hc
   dsimp only at hts hqa ej hmem
   have gts:GT ts:=gc _ hc
   refine ⟨qa,_,rfl,SqT.of (sx _ _ hqa),rfl,_,_,rfl,_,_,rfl,rfl,?_⟩
   refine ⟨_,rfl,_,rfl,k,_,ws,ks,ts,_,rfl,sx _ _ hk,dr.live.same sx,hts,fun t ht0 ht => ?_⟩
   refine ⟨_,rfl,_,rfl,_,_,rfl,rfl,_,rfl,?_⟩
   rw [decide_eq_false (show ¬ ((j:Nat):Int)<=last by omega)]
   refine iteF ?_
   refine ⟨_,rfl,bigr rfl,fun pn npn => ?_⟩
   have s7:Same Hx (upd Hx pn (.lst [])):=Same.new npn
   refine ⟨.list (ts.map PyData.int),.list [],.lst (SqL.of (s7 _ _ ht)) (VDs.map fun u _ => .int u),.lst (SqL.of upd_same) .nil,shaped_intsC ts,by decide,_,rfl,?_⟩
   have hz:PyData.eqv (.list (ts.map PyData.int)) (.list [])=false:=by
    cases ts with
    | nil=>exact absurd (zeF gts) (by simp)
    | cons u us=>exact eqv_nilC
   rw [if_neg Bool.false_ne_true,hz]
   refine iteF ?_
   refine ⟨_,rfl,?_⟩
   refine ⟨_,rfl,_,rfl,⟨_,SqL.of (s7 _ _ ht)⟩,?_⟩
   have hpx7:=s7 _ _ hpx
   have ht7:=s7 _ _ ht
   have sx7:=sx.trans s7
   have htp:t≠po:=fun e=>ht0 (by rw [e]; exact npo0)
   generalize upd Hx pn (.lst [])=H7 at hpx7 ht7 sx7
   have hin:∀ u∈ts,j + u.toNat < n:=fun u hu=>by
    have h0:=(zcy gts u hu).1
    refine hcov.below gc dr.nd hlay hmem (q:=j + u.toNat) ?_
    unfold hit tkOf
    dsimp only
    rw [hts,decide_eq_true (Nat.le_add_right _ _),Nat.add_sub_cancel_left,decide_eq_true (show ((u.toNat:Nat):Int)∈(some ts).getD [] by rw [show ((u.toNat:Nat):Int)=u by omega]; exact hu)]
    rfl
   refine zbl (zak K t (ts.map V.int)) (fun i' σ Hy=>Same H Hy/\Hy t=some (.lst (ts.map V.int))/\∃ x8,σ = [some (.ref k),some (.ref l),some (.int (n:Nat)),some (.ref po),some (.int (j:Nat)),some (.int (j:Nat)),some (.str nm'),some (.ref t),x8]/\Hy po=some (.lst ((List.range n).map fun p=>V.int (((cov ks (ly.take i) p + ((ts.take i').map fun t=>j + t.toNat).count p:Nat)):Int)))) ⟨sx7,ht7,_,rfl,?_⟩ (fun i' σ Hy _ h=>SqL.of h.2.1) ?_ ?_
   ·rw [hpx7]
    congr 2
   ·rintro i' y σ Hy hy ⟨sy,hty,x8,rfl,hpy⟩
    rw [List.getElem?_map] at hy
    cases hu:ts[i']? with
    | none=>rw [hu] at hy; cases hy
    | some u =>
     rw [hu] at hy
     cases hy
     have hub:=zcy gts u (List.mem_of_getElem? hu)
     have hjn:=hin u (List.mem_of_getElem? hu)
     refine ⟨_,rfl,_,rfl,_,_,rfl,rfl,_,rfl,_,_,rfl,rfl,_,rfl,?_⟩
     rw [decide_eq_false (show ¬ ((n:Nat):Int)<=((j:Nat):Int) + u by omega)]
     refine iteF ?_
     have hix:ixN ((List.range n).map fun p=>V.int (((cov ks (ly.take i) p + ((ts.take i').map fun t=>j + t.toNat).count p:Nat)):Int)).length (((j:Nat):Int) + u)=some (j + u.toNat):=by
      unfold ixN
      rw [List.length_map,List.length_range,if_pos (by omega),if_pos (by omega)]
      congr 1
      omega
     refine ⟨_,rfl,_,rfl,_,rfl,_,_,rfl,rfl,_,_,_,_,rfl,rfl,SqL.of hpy,atI_int (by omega) (v:=V.int (((cov ks (ly.take i) (j + u.toNat) + ((ts.take i').map fun t=>j + t.toNat).count (j + u.toNat):Nat)):Int)) ?_,_,_,rfl,rfl,?_⟩
     ·rw [show (((j:Nat):Int) + u).toNat=j + u.toNat by omega,List.getElem?_map,List.getElem?_range hjn]
      rfl
     refine ⟨_,rfl,_,rfl,_,rfl,_,_,rfl,rfl,po,_,_,_,rfl,rfl,hpy,hix,?_⟩
     refine ⟨sy.put npo0,(by rw [zag htp]; exact hty),_,rfl,?_⟩
     rw [upd_same,zfY _ _ hjn]
     congr 2
     refine List.map_congr_left fun p _ => ?_
     rw [zaE hu,List.map_append,List.count_append]
     by_cases e:p=j + u.toNat
     ·subst e
      rw [if_pos rfl]
      simp
      omega
     ·rw [if_neg e]
      simp [Ne.symm e]
   ·rintro σ Hy ⟨sy,hty,x8,rfl,hpy⟩
    rw [List.length_map,List.take_length] at hpy
    refine ⟨sy,_,_,_,_,_,rfl,?_,fun j' x' hj' ej' => ?_⟩
    ·rw [hpy]
     congr 2
     unfold ovV
     refine List.map_congr_left fun p _ => ?_
     rw [zaE ej,zcd,count_teeth (za1 (zfx gts)) (fun t ht=>(zcy gts t ht).1)]
     unfold hit tkOf
     dsimp only
     rw [hts]
     by_cases hjp:j<=p
     ·rw [if_pos hjp,decide_eq_true hjp,Bool.true_and]; rfl
     ·rw [if_neg hjp,decide_eq_false hjp,Bool.false_and]; rfl
    ·rw [List.pairwise_iff_getElem] at hup
     obtain ⟨h2a,h2b⟩:=List.getElem?_eq_some_iff.mp ej
     obtain ⟨h3a,h3b⟩:=List.getElem?_eq_some_iff.mp ej'
     have:=hup i j' h2a h3a (by omega)
     rw [h2b,h3b] at this
     dsimp only at this
     omega
  ·rintro σ Hx ⟨sx,last,x5,x6,x7,x8,rfl,hpx,_⟩
   rw [<- hll,List.take_length] at hpx
   refine ⟨_,rfl,_,rfl,⟨_,SqL.of hpx⟩,fun D hD => ?_⟩
   refine zbY (capv := []) (by rfl) (zak K po _) (by unfold ovV; rw [List.length_map,List.length_range]; exact big (by omega)) hD (fun H' s'=>SqL.of (s' _ _ hpx)) (fun _=>true) (fun _ => .bl true) ?_ ?_ ?_
   ·intro x hx H' R s' h
    exact h H' (Same.refl _)
   ·intro x hx _ H' R s' h
    obtain ⟨p,hp,rfl⟩:=List.mem_map.mp hx
    refine ⟨_,rfl,rfl,?_⟩
    have e:cov ks ly p=1:=by rw [hcov p,if_pos (List.mem_range.mp hp)]
    rw [e]
    exact h H' (Same.refl _)
   intro H3 s3 e3
   refine ⟨D,(ovV ks ly n).map fun _=>true,rfl,SqL.of ?_,?_⟩
   ·rw [e3,List.filter_eq_self.mpr (fun _ _=>rfl),List.map_map]
    rfl
   rw [List.all_eq_true.mpr (fun b hb=>by obtain ⟨_,_,rfl⟩:=List.mem_map.mp hb; rfl)]
   exact q _ (sx.trans s3)
noncomputable def NumR (mvs:List (List Key×V)) (rs:List Nat) (G:Nat->Nat):Prop:=mvs.map (·.1)=rs.map akey/\rs.Nodup/\(∀ s∈rs,s < 128)/\(∀ s∈rs,valV mvs (akey s)=some (.int ((G s:Nat):Int)))/\∀ s,s < 128->s ∉ rs->G s=0
theorem NumR.val {mvs:List (List Key×V)} {rs:List Nat} {G:Nat->Nat} (r:NumR mvs rs G) {s:Nat} (hs:s < 128):valV mvs (akey s)=if s∈rs then some (.int ((G s:Nat):Int)) else none:=by
 by_cases z:s∈rs
 ·rw [if_pos z]; exact r.2.2.2.1 s z
 ·rw [if_neg z]
  cases e:valV mvs (akey s) with
  | none=>rfl
  | some v =>
   have:=valV_mem.mp (show (valV mvs (akey s)).isSome=true by rw [e]; rfl)
   rw [r.1] at this
   exact absurd ((zdG r.2.2.1 hs).mp this) z
theorem NumR.len {mvs:List (List Key×V)} {rs:List Nat} {G:Nat->Nat} (r:NumR mvs rs G):mvs.length=rs.length/\rs.length<=128:=by
 have:=congrArg List.length r.1
 rw [List.length_map,List.length_map] at this
 exact ⟨this,zaX 128 rs r.2.1 r.2.2.1⟩
theorem NumR.put {mvs:List (List Key×V)} {rs:List Nat} {G:Nat->Nat} (r:NumR mvs rs G) {t:Nat} (ht:t < 128) (x:Nat):NumR (putK mvs (akey t) (.int ((G t + x:Nat):Int))) (addN rs t) (fun s=>if s=t then G s + x else G s):=by
 refine ⟨zeu r.2.2.1 ht r.1,zgj r.2.1,fun s hs => ?_,fun s hs => ?_,fun s hs hn => ?_⟩
 ·rcases addN_mem.mp hs with z | z
  ·exact r.2.2.1 s z
  ·rw [z]; exact ht
 ·rw [zeT]
  have hs128:s < 128:=by
   rcases addN_mem.mp hs with z | z
   ·exact r.2.2.1 s z
   ·rw [z]; exact ht
  dsimp only
  by_cases z:s=t
  ·rw [if_pos (by rw [z]),if_pos z,z]
  ·rw [if_neg (fun e=>z (zcC hs128 ht e)),if_neg z]
   rcases addN_mem.mp hs with y | y
   ·exact r.2.2.2.1 s y
   ·exact absurd y z
 ·have h1:s ∉ rs:=fun z=>hn (addN_mem.mpr (.inl z))
  have h2:s≠t:=fun z=>hn (addN_mem.mpr (.inr z))
  dsimp only
  rw [if_neg h2]
  exact r.2.2.2.2 s hs h1
noncomputable def cntL (ks:Combs) (n:Nat):List V:=(List.range (n + 1)).map fun k=>V.int ((cnt ks k 0:Nat):Int)
theorem cntL_len (ks:Combs) (n:Nat):(cntL ks n).length=n + 1:=by unfold cntL; rw [List.length_map,List.length_range]
theorem zen (ks:Combs) (n:Nat):cntL ks n ++ [V.int ((cnt ks (n + 1) 0:Nat):Int)]=cntL ks (n + 1):=by
 unfold cntL
 rw [List.range_succ (n:=n + 1),List.map_append]
 rfl
noncomputable def sp_manyways:Sp:=fun vs H Q _=>∃ (g:Addr) (kvs:List (List Key×V)) (ks:Combs) (L:List Nat) (n:Nat),vs = [.ref g,.int (n:Nat)]/\H g=some (.dT kvs)/\GrL H kvs ks L/\L.Nodup/\ClsS ks L/\0∈L/\GC ks/\ks.length<=8/\(ks.map (·.1)).Nodup/\(∀ c∈ks,c.1≠Str.ofString "")/\n<=1000/\∀ p H',Same H H'->H p=none->H' p=some (.lst (cntL ks n))->Q (.ref p) H'
theorem zcH:FnScope ["_law_graph_here","_law_length","_law_ways","_law_found","_law_k","_law_more","_law_ahead","_law_word_here","_law_further"] ["_law_graph_here","_law_length"] (defScope s_manyways):=⟨rfl,rfl,rfl,by decide +kernel,rfl,by decide +kernel,by decide +kernel⟩
theorem ok_manyways (D:DefAt K mg "_law_manyways" s_manyways) (T:Bn mg):Callee P w K mg base "_law_manyways" 1 ["_law_graph_here","_law_length"] sp_manyways:=by
 refine D.callee zcH (fun _ _ _ _ _ _=>ln2 fun _ _=>rfl) (fun vs H Q E h => ?_) (fun f cdv A outer s H vs Q E hr h => ?_)
 ·obtain ⟨g,kvs,ks,L,n,rfl,_⟩:=h
  rfl
 ·obtain ⟨g,kvs,ks,L,n,rfl,hg,gr,ndL,cl,h0L,gc,h8,ndk,nek,hn,q⟩:=h
  have ltL:=cl.1
  have S:=zcH
  have hu:=zcx hr
  refine ⟨_,zad (zam (i:=2) S.nd rfl (Or.inl rfl) (zd0 hu (zaY (zab)) (zac)))
  (zad (zam (i:=3) S.nd rfl (Or.inl rfl) (zaN (zaa (zac) zab)))
  (zad (zaT PassesOwn.never rfl (za0 rfl T.n_range (zaa (pv 1) zab)) (zai (i:=4) S.nd rfl (Or.inl rfl))
   (zad (zam (i:=5) S.nd rfl (Or.inl rfl) (zdy))
   (zad (zfO PassesOwn.never rfl (pv 2) (zai (i:=6) S.nd rfl (Or.inl rfl))
    (zaf (zaT PassesOwn.never rfl (zar (zck hu (pv 0) (pv 6) (fun _ _=>rfl))) (zdh rfl (zax (zai (i:=7) S.nd rfl (Or.inl rfl)) (zax (zai (i:=8) S.nd rfl (Or.inl rfl)) (zbs))))
     (zaf (zdw hu (pv 5) (pv 8) (zav zbr (zfi hu (pv 5) (pv 8) (zac) ⟨rfl,rfl,rfl,rfl⟩) (zck hu (pv 2) (pv 6) (fun _ _=>rfl))) rfl)))))
   (zad (zam (i:=2) S.nd rfl (Or.inl rfl) (pv 5))
   (zaf (zaI (zcl PySem.F.plainAttrs_list PySem.F.slot_list_append PySem.F.type_list_append zaH (pv 3) (zaa (zfi hu (pv 2) (zaY (zab)) (zac) ⟨rfl,rfl,rfl,rfl⟩) zab))))))))
  (zaf (zaj (pv 3))))),?_⟩
  refine fun p np=>⟨bigr rfl,fun e ne => ?_⟩
  have s1:Same H (upd H p (.dT [])):=Same.new np
  have hp1:upd H p (.dT []) p=some (.dT []):=upd_same
  generalize upd H p (.dT [])=H1 at s1 hp1 ne ⊢
  have s2:Same H1 (upd H1 e (.tup [])):=Same.new ne
  have he2:upd H1 e (.tup []) e=some (.tup ((akey 0).map kV)):=by
   rw [upd_same]
   unfold akey
   rw [kI_V,show aheadOf ((0:Nat):Int) = [] by decide]
   rfl
  generalize upd H1 e (.tup [])=H2 at s2 he2 ⊢
  refine ⟨akey 0,e,s2 _ _ hp1,rfl,he2,?_⟩
  have s12:=s1.trans s2
  have s3:Same H (upd H2 p (.dT [(akey 0,.int 1)])):=s12.put np
  have hp3:upd H2 p (.dT [(akey 0,.int 1)]) p=some (.dT [(akey 0,.int 1)]):=upd_same
  generalize upd H2 p (.dT [(akey 0,.int 1)])=H3 at s3 hp3 ⊢
  have r0:NumR [(akey 0,.int 1)] [0] (cnt ks 0):=by
   refine ⟨rfl,by simp,fun s hs=>by rw [List.mem_singleton.mp hs]; decide,fun s hs => ?_,fun s _ hs => ?_⟩
   ·rw [List.mem_singleton.mp hs,zce,if_pos rfl]
    exact zev (i:=0) (by simp) rfl
   ·rw [zce,if_neg (fun z=>hs (List.mem_singleton.mpr z))]
  refine ⟨bigr rfl,fun fo nfo => ?_⟩
  have nfo0:H fo=none:=s3.free nfo
  have s4':Same H3 (upd H3 fo (.lst [.int 1])):=Same.new nfo
  have hfo4:upd H3 fo (.lst [.int 1]) fo=some (.lst (cntL ks 0)):=by
   rw [upd_same]
   unfold cntL
   show _=some (HO.lst [V.int ((cnt ks 0 0:Nat):Int)])
   rw [zce,if_pos rfl]
   rfl
  have hp3:=s4' _ _ hp3
  have s3:=s3.trans s4'
  generalize upd H3 fo (.lst [.int 1])=H3 at s3 hp3 hfo4 ⊢
  refine ⟨_,rfl,_,rfl,by omega,by omega,?_⟩
  refine zbl (zaK 0 ((n:Nat):Int).toNat) (fun i σ Hx=>Same H Hx/\∃ (wp:Addr) (wvs:List (List Key×V)) (rs:List Nat) (x3 x4 x5 x6 x7:Option V),σ = [some (.ref g),some (.int (n:Nat)),some (.ref wp),some (.ref fo),x3,x4,x5,x6,x7]/\Hx fo=some (.lst (cntL ks i))/\H wp=none/\Hx wp=some (.dT wvs)/\NumR wvs rs (cnt ks i)/\∀ s∈rs,s∈L) ⟨s3,p,_,[0],_,_,_,_,_,rfl,hfo4,np,hp3,r0,fun s hs=>by rw [List.mem_singleton.mp hs]; exact h0L⟩ (fun _ _ _ _ _=>trivial) ?_ ?_
  ·rintro i x σ Hx hx ⟨sx,wp,wvs,rs,x3,x4,x5,x6,x7,rfl,hfo,nwp,hwp,nr,hrL⟩
   obtain ⟨hi,rfl⟩:=zbb hx
   refine fun mo nmo => ?_
   have hgw:g≠wp:=fun z=>by rw [z,nwp] at hg; cases hg
   have hwm:wp≠mo:=fun z=>by rw [<- z,hwp] at nmo; cases nmo
   have nmo0:=sx.free nmo
   have hfw:fo≠wp:=fun z=>by rw [z,hwp] at hfo; cases hfo
   have hfm:fo≠mo:=fun z=>by rw [<- z,hfo] at nmo; cases nmo
   refine ⟨wp,wvs,rfl,(by rw [zag hwm]; exact hwp),fun o => ?_⟩
   have s4:Same H (upd (upd Hx mo (.dT [])) wp (.frz o (.dT wvs))):=(sx.put nmo0).put nwp
   obtain ⟨hwl,hr128⟩:=nr.len
   have ltr:=nr.2.2.1
   let Sm:Nat->Nat->Nat:=fun j t=>((rs.take j).map fun s=>cnt ks i s * goN ks s t).sum
   refine zgC (fun j σ Hy=>Same H Hy/\Hy wp=some (.frz o (.dT wvs))/\Hy fo=some (.lst (cntL ks i))/\∃ (mvs:List (List Key×V)) (ms:List Nat) (x5 x6 x7:Option V),σ = [some (.ref g),some (.int (n:Nat)),some (.ref wp),some (.ref fo),some (.int (0 + ((i:Nat):Int))),some (.ref mo),x5,x6,x7]/\Hy mo=some (.dT mvs)/\NumR mvs ms (Sm j)/\∀ s∈ms,s∈L) ⟨s4,upd_same,(by rw [zag hfw,zag hfm]; exact hfo),[],[],_,_,_,rfl,(by rw [zag hwm.symm]; exact upd_same),⟨rfl,List.nodup_nil,nofun,nofun,fun s _ _=>rfl⟩,nofun⟩ (fun j σ Hy h=>h.2.1) ?_ ?_
   ·rintro j kk y b σ Hy hk hb ⟨sy,hwy,hfy,mvs,ms,x5',x6',x7',rfl,hmo,nm,hmL⟩
    have hki:(wvs.map (·.1))[j]?=some kk:=by rw [List.getElem?_map,hk]; rfl
    rw [nr.1,List.getElem?_map] at hki
    cases hsi:rs[j]? with
    | none=>rw [hsi] at hki; cases hki
    | some s0 =>
     rw [hsi] at hki
     cases hki
     have hsm:=List.mem_of_getElem? hsi
     have hs1:=ltr s0 hsm
     obtain ⟨qv,vv,ev,hqv,gv⟩:=(gr.same sy).val ndL ltL (hrL s0 hsm)
     have dg:DGet Hy g (.ref b) (some (.ref qv)):=by rw [<- ev]; exact DGet.t (sy _ _ hg) hb
     refine ⟨_,rfl,_,rfl,_,_,rfl,dg,_,rfl,⟨_,SqL.of hqv⟩,?_⟩
     have hvl:=gv.length
     have hqm:qv≠mo:=fun z=>by rw [z,hmo] at hqv; cases hqv
     have etk:∀ t,Sm (j + 1) t=Sm j t + cnt ks i s0 * goN ks s0 t:=fun t=>by
      show ((rs.take (j + 1)).map fun s=>cnt ks i s * goN ks s t).sum=((rs.take j).map fun s=>cnt ks i s * goN ks s t).sum + _
      rw [zaE hsi,List.map_append,List.sum_append]
      simp
     have eval0:valV wvs (akey s0)=some (.int ((cnt ks i s0:Nat):Int)):=nr.2.2.2.1 s0 hsm
     refine zbl (zak K qv vv) (fun u σ Hz=>Same H Hz/\Hz wp=some (.frz o (.dT wvs))/\Hz fo=some (.lst (cntL ks i))/\Hz b=some (.tup ((akey s0).map kV))/\Hz qv=some (.lst vv)/\GoesR Hz vv (goesOf ks (aheadOf (s0:Int)))/\∃ (mvs':List (List Key×V)) (ms':List Nat) (x6 x7:Option V),σ = [some (.ref g),some (.int (n:Nat)),some (.ref wp),some (.ref fo),some (.int (0 + ((i:Nat):Int))),some (.ref mo),some (.ref b),x6,x7]/\Hz mo=some (.dT mvs')/\NumR mvs' ms' (fun t=>Sm j t + cnt ks i s0 * (((goesOf ks (aheadOf (s0:Int))).take u).filter fun p=>decide ((worth p.2).toNat=t)).length)/\∀ s∈ms',s∈L) ⟨sy,hwy,hfy,hb,hqv,gv,mvs,ms,_,_,rfl,hmo,by simpa using nm,hmL⟩ (fun u σ Hz _ h=>SqL.of h.2.2.2.2.1) ?_ ?_
     ·rintro u y σ Hz hy ⟨sz,hwz,hfz,hbz,hqz,gz,mvs',ms',x6'',x7'',rfl,hmz,nz,hzL⟩
      obtain ⟨q1,t1,rfl,e2,e3,hltj⟩:=gz.nth hy
      have egd:(goesOf ks (aheadOf (s0:Int))).getD u ("",[])=(goesOf ks (aheadOf (s0:Int)))[u]:=by rw [List.getD_eq_getElem?_getD,List.getElem?_eq_getElem hltj]; rfl
      rw [egd] at e2 e3
      obtain ⟨k1,k2,k3,k4⟩:=zbz hs1 gc (List.getElem_mem hltj)
      generalize ht:(worth (goesOf ks (aheadOf (s0:Int)))[u].2).toNat=t at k1 k3
      have e3':Hz t1=some (.tup ((akey t).map kV)):=by rw [<- k3,kI_V]; exact e3
      have htL:t∈L:=by rw [<- ht]; exact cl.2 s0 (hrL s0 hsm) _ k4
      refine ⟨q1,_,rfl,SqT.of e2,rfl,_,_,rfl,_,_,rfl,rfl,?_⟩
      have dg2:DGet Hz wp (.ref b) (some (.int ((cnt ks i s0:Nat):Int))) := .inr ⟨wvs,akey s0,b,.inr ⟨o,hwz⟩,rfl,hbz,eval0.symm⟩
      have ddm:DGet Hz mo (.ref t1) (valV mvs' (akey t)):=DGet.t hmz e3'
      obtain ⟨nl1,nl2⟩:=nz.len
      generalize hG:(fun t=>Sm j t + cnt ks i s0 * (((goesOf ks (aheadOf (s0:Int))).take u).filter fun p=>decide ((worth p.2).toNat=t)).length)=G at nz
      have hval:=nz.val k1
      have fin:∀ gv:Int,gv=((G t:Nat):Int)->∃ a' H4,V.ref mo = .ref a'/\DPut Hz a' (.ref t1) (.int (gv + ((cnt ks i s0:Nat):Int))) H4/\(Same H H4/\H4 wp=some (.frz o (.dT wvs))/\H4 fo=some (.lst (cntL ks i))/\H4 b=some (.tup ((akey s0).map kV))/\H4 qv=some (.lst vv)/\GoesR H4 vv (goesOf ks (aheadOf (s0:Int)))/\∃ (mvs':List (List Key×V)) (ms':List Nat) (x6 x7:Option V),([some (.ref g),some (.int (n:Nat)),some (.ref wp),some (.ref fo),some (.int (0 + ((i:Nat):Int))),some (.ref mo),some (.ref b),some (.str (goesOf ks (aheadOf (s0:Int)))[u].1),some (.ref t1)]:L2.St) = [some (.ref g),some (.int (n:Nat)),some (.ref wp),some (.ref fo),some (.int (0 + ((i:Nat):Int))),some (.ref mo),some (.ref b),x6,x7]/\H4 mo=some (.dT mvs')/\NumR mvs' ms' (fun t=>Sm j t + cnt ks i s0 * (((goesOf ks (aheadOf (s0:Int))).take (u + 1)).filter fun p=>decide ((worth p.2).toNat=t)).length)/\∀ s∈ms',s∈L):=fun gv hgv=>by
       have ecast:gv + ((cnt ks i s0:Nat):Int)=((G t + cnt ks i s0:Nat):Int):=by rw [hgv]; omega
       rw [ecast]
       refine ⟨mo,_,rfl,DPut.t hmz e3' (Nat.lt_of_lt_of_le (by omega:mvs'.length < 1000) zaR),sz.put nmo0,by rw [zag hwm]; exact hwz,by rw [zag hfm]; exact hfz,?_,by rw [zag hqm]; exact hqz,?_,_,addN ms' t,_,_,rfl,upd_same,?_,fun s hs => ?_⟩
       ·rw [zag (fun z=>by rw [z,hmz] at hbz; cases hbz)]; exact hbz
       ·exact gz.mono fun qa ys z=>by rw [zag (fun z2=>by rw [z2,hmz] at z; cases z)]; exact z
       ·have:=nz.put k1 (cnt ks i s0)
        refine cast ?_ this
        congr 1
        funext t'
        rw [<- hG,List.take_succ_eq_append_getElem hltj,List.filter_append,List.length_append,List.filter_cons,List.filter_nil]
        dsimp only
        by_cases z:t'=t
        ·rw [if_pos z,if_pos (decide_eq_true (by rw [z]; exact ht)),List.length_singleton,Nat.mul_add,Nat.mul_one,Nat.add_assoc]
        ·rw [if_neg z,if_neg (by rw [decide_eq_true_eq]; exact fun y=>z (by rw [<- y]; exact ht.symm ▸ rfl)),List.length_nil,Nat.add_zero]
       ·rcases addN_mem.mp hs with z | z
        ·exact hzL s z
        ·rw [z]; exact htL
      by_cases hin:t∈ms'
      ·rw [if_pos hin] at hval
       rw [hval] at ddm
       exact ⟨_,rfl,mo,rfl,.inr ⟨mvs',.inl hmz⟩,_,rfl,_,ddm,_,rfl,_,rfl,_,_,rfl,dg2,_,_,rfl,rfl,_,rfl,_,rfl,fin _ rfl⟩
      ·rw [if_neg hin] at hval
       rw [hval] at ddm
       exact ⟨_,rfl,mo,rfl,.inr ⟨mvs',.inl hmz⟩,_,rfl,_,ddm,_,rfl,_,rfl,_,_,rfl,dg2,_,_,rfl,rfl,_,rfl,_,rfl,fin _ (by rw [nz.2.2.2.2 t k1 hin]; rfl)⟩
     ·rintro σ Hz ⟨sz,hwz,hfz,hbz,hqz,gz,mvs',ms',x6'',x7'',rfl,hmz,nz,hzL⟩
      rw [hvl,List.take_length] at nz
      refine ⟨sz,hwz,hfz,mvs',ms',_,_,_,rfl,hmz,?_,hzL⟩
      refine cast ?_ nz
      congr 1
      funext t
      rw [etk]
      congr 2
      unfold goN
      rw [<- za9 hs1 gc,List.filter_map,List.length_map]
      rfl
   ·rintro σ Hy ⟨sy,hwy,hfy,mvs,ms,x5',x6',x7',rfl,hmo,nm,hmL⟩
    refine ⟨hwy,?_⟩
    have sz:Same H (upd Hy wp (.dT wvs)):=sy.put nwp
    rw [hwl] at nm
    have nm':NumR mvs ms (cnt ks (i + 1)):=by
     refine ⟨nm.1,nm.2.1,nm.2.2.1,fun t ht => ?_,fun t ht hno => ?_⟩
     all_goals
      have ht':t < 128:=by first | exact ht | exact nm.2.2.1 t ht
      have e:Sm rs.length t=cnt ks (i + 1) t:=by
       rw [zfr gc ndk nek ht']
       show ((rs.take rs.length).map fun s=>cnt ks i s * goN ks s t).sum=_
       rw [List.take_length]
       have hz:∀ s,s < 128->s ∉ rs->cnt ks i s=0:=nr.2.2.2.2
       unfold sumR
       have p1:(List.range 128).Perm (rs ++ (List.range 128).filter fun s=>decide (s ∉ rs)):=by
        refine (List.perm_ext_iff_of_nodup List.nodup_range ?_).mpr fun s => ?_
        ·refine List.nodup_append.mpr ⟨nr.2.1,List.nodup_range.sublist List.filter_sublist,fun u hu v hv e => ?_⟩
         have:=of_decide_eq_true (List.mem_filter.mp hv).2
         exact this (e ▸ hu)
        ·rw [List.mem_append,List.mem_filter,List.mem_range,decide_eq_true_eq]
         constructor
         ·intro h1
          by_cases y:s∈rs
          ·exact .inl y
          ·exact .inr ⟨h1,y⟩
         ·rintro (y | y)
          ·exact ltr s y
          ·exact y.1
       rw [(p1.map _).sum_nat,List.map_append,List.sum_append]
       have:(((List.range 128).filter fun s=>decide (s ∉ rs)).map fun s=>cnt ks i s * goN ks s t).sum=0:=zeX fun s hs=>by
        obtain ⟨a1,a2⟩:=List.mem_filter.mp hs
        rw [hz s (List.mem_range.mp a1) (of_decide_eq_true a2),Nat.zero_mul]
       rw [this,Nat.add_zero]
     ·rw [<- e]; exact nm.2.2.2.1 t ht
     ·rw [<- e]; exact nm.2.2.2.2 t ht hno
    have hmo':upd Hy wp (.dT wvs) mo=some (.dT mvs):=by rw [zag hwm.symm]; exact hmo
    have hfo':upd Hy wp (.dT wvs) fo=some (.lst (cntL ks i)):=by rw [zag hfw]; exact hfy
    generalize upd Hy wp (.dT wvs)=H5 at sz hmo' hfo' ⊢
    refine ⟨_,rfl,?_⟩
    refine ⟨_,rfl,.inl ⟨rfl,_,SqL.of hfo'⟩,_,rfl,mo,rfl,.inr ⟨mvs,.inl hmo'⟩,bigr rfl,fun te nte => ?_⟩
    have s5:Same H5 (upd H5 te (.tup [])):=Same.new nte
    have hte:upd H5 te (.tup []) te=some (.tup ((akey 0).map kV)):=by
     rw [upd_same]
     unfold akey
     rw [kI_V,show aheadOf ((0:Nat):Int) = [] by decide]
     rfl
    have dg:=DGet.t (s5 _ _ hmo') hte
    have hval:=nm'.val (show 0 < 128 by decide)
    have hmo6:=s5 _ _ hmo'
    have hfo6:=s5 _ _ hfo'
    have s6:=sz.trans s5
    have dg':DGet (upd H5 te (.tup [])) mo (.ref te) (if 0∈ms then some (.int ((cnt ks (i + 1) 0:Nat):Int)) else none):=by rw [<- hval]; exact dg
    generalize upd H5 te (.tup [])=H6 at s6 hmo6 hfo6 dg' ⊢
    have hlen:=cntL_len ks i
    have st:Same H (upd H6 fo (.lst (cntL ks i ++ [V.int ((cnt ks (i + 1) 0:Nat):Int)]))):=s6.put nfo0
    by_cases hin:0∈ms
    ·rw [if_pos hin] at dg'
     refine ⟨_,dg',fo,_,_,rfl,rfl,hfo6,Nat.lt_of_lt_of_le (by omega:(cntL ks i).length < 2000) (by decide),?_⟩
     exact ⟨st,mo,mvs,ms,_,_,_,_,_,rfl,upd_same.trans (congrArg (fun z=>some (HO.lst z)) (zen ks i)),nmo0,by rw [zag (Ne.symm hfm)]; exact hmo6,nm',hmL⟩
    ·rw [if_neg hin] at dg'
     have e0:=nm'.2.2.2.2 0 (by decide) hin
     rw [e0] at st
     refine ⟨_,dg',fo,_,_,rfl,rfl,hfo6,Nat.lt_of_lt_of_le (by omega:(cntL ks i).length < 2000) (by decide),?_⟩
     refine ⟨st,mo,mvs,ms,_,_,_,_,_,rfl,?_,nmo0,by rw [zag (Ne.symm hfm)]; exact hmo6,nm',hmL⟩
     rw [upd_same,<- zen,e0]
     rfl
  ·rintro σ Hx ⟨sx,wp,wvs,rs,x3,x4,x5,x6,x7,rfl,hfo,nwp,hwp,nr,hrL⟩
   rw [zbi,show ((n:Nat):Int).toNat=n by omega] at hfo
   exact ⟨_,rfl,q fo Hx sx nfo0 hfo⟩
theorem zfI:FnScope ["_law_graph_here","_law_length","_law_table","_law_left","_law_ends_here","_law_ahead"] ["_law_graph_here","_law_length"] (defScope s_ends):=⟨rfl,rfl,rfl,by decide +kernel,rfl,by decide +kernel,by decide +kernel⟩
theorem ok_ends (D:DefAt K mg "_law_ends" s_ends) (T:Bn mg):Callee P w K mg base "_law_ends" 1 ["_law_graph_here","_law_length"] sp_ends:=by
 refine D.callee zfI (fun _ _ _ _ _ _=>ln2 fun _ _=>rfl) (fun vs H Q E h => ?_) (fun f cdv A outer s H vs Q E hr h => ?_)
 ·obtain ⟨g,kvs,ks,L,n,rfl,_⟩:=h
  rfl
 ·obtain ⟨g,kvs,ks,L,n,rfl,hg,gr,ndL,cl,h0L,gc,h8,hn,q⟩:=h
  have ltL:=cl.1
  have S:=zfI
  have hu:=zcx hr
  have hL128:=zaX 128 L ndL ltL
  refine ⟨_,zad (zam (i:=2) S.nd rfl (Or.inr rfl) (zaN (zaa (zd0 hu (zaY (zab)) (zbI)) zab)))
  (zad (zaT PassesOwn.never rfl (za0 rfl T.n_range (zaa (pv 1) zab)) (zai (i:=3) S.nd rfl (Or.inr rfl))
   (zad (zam (i:=4) S.nd rfl (Or.inl rfl) (zdy))
   (zad (zfO PassesOwn.never rfl (pv 0) (zai (i:=5) S.nd rfl (Or.inl rfl))
    (zaf (zaG (zbv (zah (call_any rfl) rfl T.n_any boot_any (zaa (zaU (own := ["_law_word_here","_law_further"]) (caps := [(2,"_law_table"),(3,"_law_left")]) rfl ⟨rfl,rfl,rfl,rfl,⟨⟨rfl,rfl,.inl rfl⟩,⟨rfl,rfl,.inl rfl⟩,trivial⟩⟩ (zar (zck hu (pv 0) (pv 5) (fun _ _=>rfl))) (fun _ _ _ _ _ _=>pg_tup' K rfl (n:=2) rfl (zax (zai (i:=0) (zaM (by decide +kernel)) rfl (Or.inl rfl)) (zax (zai (i:=1) (zaM (by decide +kernel)) rfl (Or.inl rfl)) (zbs)))) (fun _ _ _ _ _ _=>za8) (fun _ _ _ _ _ _=>pe_cmp (zfk hu (pv 1) (zaz (zbS K rfl) (pv 2) (pv 3) (fun _ _=>rfl))))) zab)))
     (zaf (zdw hu (pv 4) (pv 5) (zbI) rfl))
     (zan))))
   (zaf (zaI (zcl PySem.F.plainAttrs_list PySem.F.slot_list_append PySem.F.type_list_append zaH (pv 2) (zaa (pv 4) zab)))))))
  (zaf (zaj (pv 2)))),?_⟩
  refine fun e0 ne0=>⟨bigr rfl,fun te nte => ?_⟩
  have s1:Same H (upd H e0 (.dT [])):=Same.new ne0
  have hp1:upd H e0 (.dT []) e0=some (.dT []):=upd_same
  generalize upd H e0 (.dT [])=H1 at s1 hp1 nte ⊢
  have s2:Same H1 (upd H1 te (.tup [])):=Same.new nte
  have he2:upd H1 te (.tup []) te=some (.tup ((akey 0).map kV)):=by
   rw [upd_same]
   unfold akey
   rw [kI_V,show aheadOf ((0:Nat):Int) = [] by decide]
   rfl
  generalize upd H1 te (.tup [])=H2 at s2 he2 ⊢
  refine ⟨akey 0,te,s2 _ _ hp1,rfl,he2,?_⟩
  have s12:=s1.trans s2
  have s3:Same H (upd H2 e0 (.dT [(akey 0,.bl true)])):=s12.put ne0
  have hp3:upd H2 e0 (.dT [(akey 0,.bl true)]) e0=some (.dT [(akey 0,.bl true)]):=upd_same
  generalize upd H2 e0 (.dT [(akey 0,.bl true)])=H3 at s3 hp3 ⊢
  refine ⟨bigr rfl,fun tb ntb => ?_⟩
  have s4:Same H3 (upd H3 tb (.lst [.ref e0])):=Same.new ntb
  have hp4:=s4 _ _ hp3
  have htb4:upd H3 tb (.lst [.ref e0]) tb=some (.lst [.ref e0]):=upd_same
  have ntb0:=s3.free ntb
  have s34:=s3.trans s4
  generalize upd H3 tb (.lst [.ref e0])=H4 at s34 hp4 htb4 ⊢
  have r0:EndsR H4 (Wy ks) L [.ref e0] 1:=by
   refine ⟨rfl,fun k hk => ?_⟩
   have:k=0:=by omega
   subst this
   refine ⟨e0,rfl,_,[0],hp4,rfl,fun s hs=>by rw [List.mem_singleton.mp hs]; exact h0L,fun s _ => ?_⟩
   rw [List.mem_singleton]
   show s=0 ↔ 0 < (if s=0 then 1 else 0)
   by_cases z:s=0
   ·rw [if_pos z]; exact ⟨fun _=>by omega,fun _=>z⟩
   ·rw [if_neg z]; exact ⟨fun y=>absurd y z,fun y=>by omega⟩
  refine ⟨_,rfl,_,rfl,by omega,by omega,?_⟩
  refine zbl (zaK 0 ((n:Nat):Int).toNat) (fun i σ Hx=>Same H Hx/\∃ (ws:List V) (x3 x4 x5:Option V),σ = [some (.ref g),some (.int (n:Nat)),some (.ref tb),x3,x4,x5]/\Hx tb=some (.lst ws)/\EndsR Hx (Wy ks) L ws (i + 1)/\∀ (k:Nat) (q:Addr),ws[k]?=some (.ref q)->H q=none) ⟨s34,_,_,_,_,rfl,htb4,r0,fun k q h => ?_⟩ (fun _ _ _ _ _=>trivial) ?_ ?_
  ·have:=List.mem_of_getElem? h
   rw [List.mem_singleton] at this
   injection this with this
   rw [this]; exact ne0
  ·rintro i x σ Hx hx ⟨sx,ws,x3,x4,x5,rfl,htb,er,hnone⟩
   obtain ⟨hi,rfl⟩:=zbb hx
   have hi:i < n:=by simpa using hi
   rw [Int.zero_add]
   refine fun eh neh => ?_
   have neh0:=sx.free neh
   have hgt:g≠tb:=fun z=>by rw [z,ntb0] at hg; cases hg
   have hge:g≠eh:=fun z=>by rw [z,neh0] at hg; cases hg
   have hte:tb≠eh:=fun z=>by rw [<- z,htb] at neh; cases neh
   have hq:∀ (k:Nat) (q:Addr),ws[k]?=some (.ref q)->q≠g/\q≠eh/\q≠tb:=fun k q e=>by
    have hk:k < i + 1:=by rw [<- er.1]; exact (List.getElem?_eq_some_iff.mp e).1
    obtain ⟨q',e1,evs,es,e2,_⟩:=er.2 k hk
    rw [e] at e1
    cases e1
    refine ⟨fun z => ?_,fun z => ?_,fun z => ?_⟩
    ·have:=hnone k q e
     rw [z,hg] at this; cases this
    ·rw [z,neh] at e2; cases e2
    ·rw [z,htb] at e2; cases e2
   refine ⟨g,kvs,rfl,by rw [zag hge]; exact sx _ _ hg,fun o => ?_⟩
   have grf:∀ {Hy:Hp},Same H (upd Hy g (.dT kvs))->GrL Hy kvs ks L:=fun {Hy} sy=>(gr.same sy).mono (fun kv _ q vs _ e=>by
     by_cases z:q=g
     ·rw [z,upd_same] at e; cases e
     ·rw [zag z] at e; exact e) fun q xs e=>by
     by_cases z:q=g
     ·rw [z,upd_same] at e; cases e
     ·rw [zag z] at e; exact e
   have wst:∀ s,s < 128->(0 < Wy ks (i + 1) s ↔ ∃ t,st1 ks s t/\0 < Wy ks i t):=fun s hs=>by
    show 0 < ((stp ks s).map fun p=>Wy ks i p.2.toNat).sum ↔ _
    rw [sum_pos]
    constructor
    ·rintro ⟨pp,h1,h2⟩; exact ⟨_,⟨pp,h1,rfl⟩,h2⟩
    ·rintro ⟨t,⟨pp,h1,rfl⟩,h2⟩; exact ⟨pp,h1,h2⟩
   refine zgC (fun j σ Hy=>Same H (upd Hy g (.dT kvs))/\Hy g=some (.frz o (.dT kvs))/\Hy tb=some (.lst ws)/\EndsR Hy (Wy ks) L ws (i + 1)/\∃ (evs:List (List Key×V)) (es:List Nat) (x5:Option V),σ = [some (.ref g),some (.int (n:Nat)),some (.ref tb),some (.int (i:Nat)),some (.ref eh),x5]/\Hy eh=some (.dT evs)/\evs.map (·.1)=es.map akey/\es.Nodup/\(∀ s∈es,s∈L)/\(∀ s∈es,0 < Wy ks (i + 1) s)/\∀ s∈L.take j,0 < Wy ks (i + 1) s->s∈es) ⟨?_,upd_same,by rw [zag hgt.symm,zag hte]; exact htb,⟨er.1,fun k hk => ?_⟩,[],[],_,rfl,by rw [zag hge.symm]; exact upd_same,rfl,List.nodup_nil,nofun,nofun,fun s hs'=>by cases hs'⟩ (fun i σ Hy h=>h.2.1) ?_ ?_
   ·intro b u eb
    have hbe:b≠eh:=fun z=>by rw [z,neh0] at eb; cases eb
    by_cases z:b=g
    ·rw [z,upd_same]; rw [z,hg] at eb; exact eb
    ·rw [zag z,zag z,zag hbe]; exact sx _ _ eb
   ·obtain ⟨q1,e1,e2⟩:=er.2 k hk
    obtain ⟨y1,y2,_⟩:=hq k q1 e1
    exact ⟨q1,e1,e2.same fun u hu=>by rw [zag y1,zag y2]; exact hu⟩
   ·rintro j kk y b σ Hy hk hb ⟨sy,hgy,htby,ery,evs,es,x5',rfl,heh,hky,nd',sub',snd',cov'⟩
    have hki:(kvs.map (·.1))[j]?=some kk:=by rw [List.getElem?_map,hk]; rfl
    rw [gr.keys,List.getElem?_map] at hki
    cases hsi:L[j]? with
    | none=>rw [hsi] at hki; cases hki
    | some s0 =>
     rw [hsi] at hki
     cases hki
     have hsm:=List.mem_of_getElem? hsi
     have hs1:=ltL s0 hsm
     obtain ⟨qv,vv,ev,hqv,gv⟩:=(grf sy).val ndL ltL hsm
     have lt':∀ s∈es,s < 128:=fun s hs=>ltL s (sub' s hs)
     obtain ⟨qt,et,dvs,ds,hqt,hdk,hdL,hdW⟩:=ery.2 i (by omega)
     have ltd:∀ s∈ds,s < 128:=fun s hs=>ltL s (hdL s hs)
     have dg:DGet Hy g (.ref b) (some (.ref qv)):=by rw [<- ev]; exact .inr ⟨kvs,akey s0,b,.inr ⟨o,hgy⟩,rfl,hb,rfl⟩
     refine ⟨_,rfl,_,rfl,_,_,rfl,dg,_,rfl,⟨_,SqL.of hqv⟩,fun D hD => ?_⟩
     have hgl:=gv.length
     have hg8:=zcT h8 s0 hs1 gc
     refine comp_i2 (capv := [some (.ref tb),some (.int (i:Nat))]) (by rfl) (zak K qv vv) (big (by omega)) hD (fun H' s'=>SqL.of (s' _ _ hqv)) (fun i => .str ((goesOf ks (aheadOf (s0:Int))).getD i ("",[])).1) (tupY Hy vv) (fun i x hx=>by
      obtain ⟨q1,t1,rfl,e2,e3,_⟩:=gv.nth hx
      exact ⟨q1,rfl,by rw [zfz hx e2]; exact e2⟩) (fun _=>true) (fun i => .bl (decide ((worth ((goesOf ks (aheadOf (s0:Int))).getD i ("",[])).2).toNat∈ds))) (fun _ _ _=>nofun) (fun i hi H R s' h=>h H (Same.refl _)) ?_ ?_
     ·intro i' hi' _ H' R s' h
      obtain ⟨q1,t1,e1,e2,e3,hlt⟩:=gv.nth (List.getElem?_eq_getElem hi')
      have hm:(goesOf ks (aheadOf (s0:Int))).getD i' ("",[])∈goesOf ks (aheadOf (s0:Int)):=by rw [List.getD_eq_getElem?_getD,List.getElem?_eq_getElem hlt]; exact List.getElem_mem hlt
      obtain ⟨k1,k2,k3,k4⟩:=zbz hs1 gc hm
      have ey:tupY Hy vv i' = .ref t1:=zfz (by rw [List.getElem?_eq_getElem hi',e1]) e2
      rw [ey]
      refine ⟨_,rfl,_,rfl,_,rfl,_,_,_,_,rfl,rfl,SqL.of (s' _ _ htby),zas et,qt,_,rfl,.inr ⟨dvs,akey (worth ((goesOf ks (aheadOf (s0:Int))).getD i' ("",[])).2).toNat,t1,.inl (s' _ _ hqt),rfl,(by rw [<- k3,kI_V]; exact s' _ _ e3),rfl⟩,?_⟩
      rw [zf4 hdk ltd k1]
      exact h H' (Same.refl _)
     intro H' s' e
     refine ⟨_,(List.range vv.length).map fun i=>decide ((worth ((goesOf ks (aheadOf (s0:Int))).getD i ("",[])).2).toNat∈ds),rfl,SqL.of ?_,_,rfl,?_⟩
     ·rw [e,List.filter_eq_self.mpr (fun _ _=>rfl),List.map_map]
      rfl
     have hany:(List.any ((List.range vv.length).map fun i=>decide ((worth ((goesOf ks (aheadOf (s0:Int))).getD i ("",[])).2).toNat∈ds)) id=true) ↔ 0 < Wy ks (i + 1) s0:=by
      have e1:=any_rangeH (goesOf ks (aheadOf (s0:Int))) (fun p=>decide ((worth p.2).toNat∈ds)) ("",[])
      rw [hgl]
      show List.any ((List.range (goesOf ks (aheadOf (s0:Int))).length).map fun i=>decide ((worth ((goesOf ks (aheadOf (s0:Int))).getD i ("",[])).2).toNat∈ds)) (fun b=>b)=true ↔ _
      rw [e1,List.any_eq_true,wst s0 hs1]
      constructor
      ·rintro ⟨pp,hpp,hd⟩
       have hd:=of_decide_eq_true hd
       exact ⟨_,⟨_,(zbz hs1 gc hpp).2.2.2,rfl⟩,(hdW _ (hdL _ hd)).mp hd⟩
      ·rintro ⟨t,⟨pp,hpp,rfl⟩,ht⟩
       have hL:=cl.2 s0 hsm pp hpp
       rw [<- za9 hs1 gc] at hpp
       obtain ⟨gp,hgp',rfl⟩:=List.mem_map.mp hpp
       exact ⟨gp,hgp',decide_eq_true ((hdW _ hL).mpr ht)⟩
     have etk:L.take (j + 1)=L.take j ++ [s0]:=zaE hsi
     have sy':Same H (upd H' g (.dT kvs)):=fun b u eb=>by
      by_cases z:b=g
      ·rw [z,upd_same]; rw [z,hg] at eb; exact eb
      ·have:=sy _ _ eb
       rw [zag z] at this ⊢
       exact s' _ _ this
     have er':EndsR H' (Wy ks) L ws (i + 1):=⟨ery.1,fun k hk=>by
      obtain ⟨q1,e1,e2⟩:=ery.2 k hk
      exact ⟨q1,e1,e2.same fun u hu=>s' _ _ hu⟩⟩
     refine ite2 (fun hz => ?_) (fun hz => ?_)
     ·have hz:=hany.mp hz
      refine ⟨_,rfl,_,rfl,eh,_,rfl,DPut.t (k:=akey s0) (s' _ _ heh) (s' _ _ hb) (Nat.lt_of_lt_of_le (?_:evs.length < 1000) zaR),?_⟩
      ·have:=congrArg List.length hky
       rw [List.length_map,List.length_map] at this
       have:=zaX 128 _ nd' lt'
       omega
      refine ⟨fun b u eb => ?_,by rw [zag hge]; exact s' _ _ hgy,by rw [zag hte]; exact s' _ _ htby,⟨er'.1,fun k hk => ?_⟩,_,addN es s0,_,rfl,upd_same,zeu lt' hs1 hky,zgj nd',fun s hs => ?_,fun s hs => ?_,fun s hs hw => ?_⟩
      ·have hbp:b≠eh:=fun z=>by rw [z,neh0] at eb; cases eb
       have:=sy' _ _ eb
       by_cases z:b=g
       ·rw [z,upd_same] at this ⊢; exact this
       ·rw [zag z] at this ⊢
        rw [zag hbp]; exact this
      ·obtain ⟨q1,e1,e2⟩:=er'.2 k hk
       exact ⟨q1,e1,e2.same fun u hu=>by rw [zag (hq k q1 e1).2.1]; exact hu⟩
      ·rcases addN_mem.mp hs with z | z
       ·exact sub' s z
       ·rw [z]; exact hsm
      ·rcases addN_mem.mp hs with z | z
       ·exact snd' s z
       ·rw [z]; exact hz
      ·rw [etk] at hs
       rcases List.mem_append.mp hs with z | z
       ·exact addN_mem.mpr (.inl (cov' s z hw))
       ·exact addN_mem.mpr (.inr (List.mem_singleton.mp z))
     ·refine ⟨sy',s' _ _ hgy,s' _ _ htby,er',evs,es,_,rfl,s' _ _ heh,hky,nd',sub',snd',fun s hs hw => ?_⟩
      rw [etk] at hs
      rcases List.mem_append.mp hs with z | z
      ·exact cov' s z hw
      ·rw [List.mem_singleton.mp z] at hw
       exact absurd (hany.mpr hw) hz
   ·rintro σ Hy ⟨sy,hgy,htby,ery,evs,es,x5',rfl,heh,hky,nd',sub',snd',cov'⟩
    rw [gr.len,List.take_length] at cov'
    refine ⟨hgy,?_⟩
    have htz:upd Hy g (.dT kvs) tb=some (.lst ws):=by rw [zag hgt.symm]; exact htby
    have hez:upd Hy g (.dT kvs) eh=some (.dT evs):=by rw [zag hge.symm]; exact heh
    have erz:EndsR (upd Hy g (.dT kvs)) (Wy ks) L ws (i + 1):=⟨ery.1,fun k hk=>by
     obtain ⟨q1,e1,e2⟩:=ery.2 k hk
     exact ⟨q1,e1,e2.same fun u hu=>by rw [zag (hq k q1 e1).1]; exact hu⟩⟩
    generalize upd Hy g (.dT kvs)=Hz at sy htz hez erz ⊢
    refine ⟨_,rfl,.inl ⟨rfl,_,SqL.of htz⟩,_,rfl,tb,_,_,rfl,rfl,htz,Nat.lt_of_lt_of_le (by have:=erz.1; omega:ws.length < 1000) zaR,?_⟩
    refine ⟨sy.put ntb0,_,_,_,_,rfl,upd_same,⟨by rw [List.length_append,erz.1]; rfl,fun k hk => ?_⟩,fun k q1 e1 => ?_⟩
    ·by_cases z:k < i + 1
     ·obtain ⟨q1,e1,e2⟩:=erz.2 k z
      exact ⟨q1,by rw [List.getElem?_append_left (by rw [erz.1]; exact z)]; exact e1,e2.same fun u hu=>by rw [zag (hq k q1 e1).2.2]; exact hu⟩
     ·have:k=i + 1:=by omega
      subst this
      refine ⟨eh,by rw [List.getElem?_append_right (by rw [erz.1]; omega),erz.1,Nat.sub_self]; rfl,evs,es,by rw [zag hte.symm]; exact hez,hky,sub',fun s hs=>⟨snd' s,cov' s hs⟩⟩
    ·by_cases z:k < i + 1
     ·rw [List.getElem?_append_left (by rw [erz.1]; exact z)] at e1
      exact hnone k q1 e1
     ·have hlt:=(List.getElem?_eq_some_iff.mp e1).1
      rw [List.length_append,List.length_singleton,erz.1] at hlt
      have:k=i + 1:=by omega
      subst this
      rw [List.getElem?_append_right (by rw [erz.1]; omega),erz.1,Nat.sub_self] at e1
      cases e1
      exact neh0
  ·rintro σ Hx ⟨sx,ws,x3,x4,x5,rfl,htb,er,hno⟩
   rw [zbi,show ((n:Nat):Int).toNat=n by omega] at er
   exact ⟨_,rfl,q tb ws Hx sx htb er hno⟩
structure Ea (mg:Str->Option Value) (ea:Nat->Addr):Prop where
 n0:mg "BadName" = some (.ref (ea 0))
 n1:mg "BadTeeth" = some (.ref (ea 1))
 n2:mg "NameTaken" = some (.ref (ea 2))
 n3:mg "BookFull" = some (.ref (ea 3))
 n4:mg "NoComb" = some (.ref (ea 4))
 n5:mg "BadTooth" = some (.ref (ea 5))
 n6:mg "ToothThere" = some (.ref (ea 6))
 n7:mg "FirstTooth" = some (.ref (ea 7))
 n8:mg "ToothMissing" = some (.ref (ea 8))
 n9:mg "DeedsFull" = some (.ref (ea 9))
 n10:mg "NothingDone" = some (.ref (ea 10))
 n11:mg "BadShape" = some (.ref (ea 11))
 n12:mg "BadPlace" = some (.ref (ea 12))
 n13:mg "BadLength" = some (.ref (ea 13))
 n14:mg "NoFilling" = some (.ref (ea 14))
noncomputable def spKind (K:W.Frag) (ea:Nat->Addr):Addr->Value->Sp:=fun e c vs H Q _=>vs = [.ref e]/\∃ D j,c = .ref D/\KindF K ea D j/\∀ p H',Same H H'->H p=none->H' p=some (.lst [.str (errName j)])->Q (.ref p) H'
noncomputable def kb (j i:Nat):V := .bl (decide (i=j))
noncomputable def kBools (j:Nat):List V:=(List.range 15).map (kb j)
theorem kBools_eq (j:Nat):kBools j = [kb j 0,kb j 1,kb j 2,kb j 3,kb j 4,kb j 5,kb j 6,kb j 7,kb j 8,kb j 9,kb j 10,kb j 11,kb j 12,kb j 13,kb j 14]:=rfl
noncomputable def isJ (j:Nat) (v:V):Bool:=match v with
 | .int t=>decide (t.toNat=j)
 | _=>false
noncomputable def wordJ (v:V):V:=match v with
 | .int t => .str (errName t.toNat)
 | _ => .non
theorem kind_res {j:Nat} (h:j < 15):(((List.range (15:Int).toNat).map fun i=>V.int (0 + ((i:Nat):Int))).filter (isJ j)).map wordJ = [.str (errName j)]:=by
 have all:∀ j∈List.range 15,(((List.range (15:Int).toNat).map fun i=>V.int (0 + ((i:Nat):Int))).filter (isJ j)).map wordJ = [.str (errName j)]:=by decide +kernel
 exact all j (List.mem_range.mpr h)
theorem zfG:FnScope ["_law_e","_law_is_one","_law_words"] ["_law_e"] (defScope s_kind):=⟨rfl,rfl,rfl,by decide +kernel,rfl,by decide +kernel,by decide +kernel⟩
theorem ok_kind (D:DefAt K mg "_law_kind" s_kind) (T:Bn mg) {ea:Nat->Addr} (EA:Ea mg ea):HCallee P w K mg base "_law_kind" 1 ["_law_e"] (spKind K ea):=by
 have V_BadName:=EA.n0
 have V_BadTeeth:=EA.n1
 have V_NameTaken:=EA.n2
 have V_BookFull:=EA.n3
 have V_NoComb:=EA.n4
 have V_BadTooth:=EA.n5
 have V_ToothThere:=EA.n6
 have V_FirstTooth:=EA.n7
 have V_ToothMissing:=EA.n8
 have V_DeedsFull:=EA.n9
 have V_NothingDone:=EA.n10
 have V_BadShape:=EA.n11
 have V_BadPlace:=EA.n12
 have V_BadLength:=EA.n13
 have V_NoFilling:=EA.n14
 refine D.hcalleeQ zfG (fun _ _ _ _ _ _=>ln1 fun _=>rfl) (fun e c vs H Q E h => ?_) (fun f cdv A outer s H vs Q e oe c ws hc hd hq h => ?_)
 ·obtain ⟨rfl,_⟩:=h
  rfl
 ·obtain ⟨rfl,D,j,rfl,F,q⟩:=h
  have S:=zfG
  have pin:(e,oe)∈(cxH P w K mg base ["_law_e","_law_is_one","_law_words"] "_law_kind" (defScope s_kind) f cdv A outer s H e oe).pn/\(oe.cls = .ref D/\oe.dict=none)/\∃ vs,oe.data = .fields vs:=⟨List.mem_singleton.mpr rfl,hc,ws,hd⟩
  refine ⟨_,zay (za4 (i:=1) S.nd rfl (Or.inr rfl) (zbd (zae (qe (zah zaO rfl T.n_isinstance boot_isinstance (zaa (pv 0) (zaa (zbe rfl V_BadName) zab)))) (zae (qe (zah zaO rfl T.n_isinstance boot_isinstance (zaa (pv 0) (zaa (zbe rfl V_BadTeeth) zab)))) (zae (qe (zah zaO rfl T.n_isinstance boot_isinstance (zaa (pv 0) (zaa (zbe rfl V_NameTaken) zab)))) (zaw))))))
  (zay (za4 (i:=1) S.nd rfl (Or.inr rfl) (zc0 zbH (qe (pv 1)) (zbd (zae (qe (zah zaO rfl T.n_isinstance boot_isinstance (zaa (pv 0) (zaa (zbe rfl V_BookFull) zab)))) (zae (qe (zah zaO rfl T.n_isinstance boot_isinstance (zaa (pv 0) (zaa (zbe rfl V_NoComb) zab)))) (zae (qe (zah zaO rfl T.n_isinstance boot_isinstance (zaa (pv 0) (zaa (zbe rfl V_BadTooth) zab)))) (zaw)))))))
  (zay (za4 (i:=1) S.nd rfl (Or.inr rfl) (zc0 zbH (qe (pv 1)) (zbd (zae (qe (zah zaO rfl T.n_isinstance boot_isinstance (zaa (pv 0) (zaa (zbe rfl V_ToothThere) zab)))) (zae (qe (zah zaO rfl T.n_isinstance boot_isinstance (zaa (pv 0) (zaa (zbe rfl V_FirstTooth) zab)))) (zaw))))))
  (zay (za4 (i:=1) S.nd rfl (Or.inr rfl) (zc0 zbH (qe (pv 1)) (zbd (zae (qe (zah zaO rfl T.n_isinstance boot_isinstance (zaa (pv 0) (zaa (zbe rfl V_ToothMissing) zab)))) (zae (qe (zah zaO rfl T.n_isinstance boot_isinstance (zaa (pv 0) (zaa (zbe rfl V_DeedsFull) zab)))) (zaw))))))
  (zay (za4 (i:=1) S.nd rfl (Or.inr rfl) (zc0 zbH (qe (pv 1)) (zbd (zae (qe (zah zaO rfl T.n_isinstance boot_isinstance (zaa (pv 0) (zaa (zbe rfl V_NothingDone) zab)))) (zae (qe (zah zaO rfl T.n_isinstance boot_isinstance (zaa (pv 0) (zaa (zbe rfl V_BadShape) zab)))) (zaw))))))
  (zay (za4 (i:=1) S.nd rfl (Or.inr rfl) (zc0 zbH (qe (pv 1)) (zbd (zae (qe (zah zaO rfl T.n_isinstance boot_isinstance (zaa (pv 0) (zaa (zbe rfl V_BadPlace) zab)))) (zae (qe (zah zaO rfl T.n_isinstance boot_isinstance (zaa (pv 0) (zaa (zbe rfl V_BadLength) zab)))) (zae (qe (zah zaO rfl T.n_isinstance boot_isinstance (zaa (pv 0) (zaa (zbe rfl V_NoFilling) zab)))) (zaw)))))))
  (zay (za4 (i:=2) S.nd rfl (Or.inr rfl) (zbd (zae (qe (zap)) (zae (qe (zap)) (zae (qe (zap)) (zae (qe (zap)) (zae (qe (zap)) (zae (qe (zap)) (zae (qe (zap)) (zaw))))))))))
  (zay (za4 (i:=2) S.nd rfl (Or.inr rfl) (zc0 zbH (qe (pv 2)) (zbd (zae (qe (zap)) (zae (qe (zap)) (zae (qe (zap)) (zae (qe (zap)) (zae (qe (zap)) (zaw)))))))))
  (zay (za4 (i:=2) S.nd rfl (Or.inr rfl) (zc0 zbH (qe (pv 2)) (zbd (zae (qe (zap)) (zae (qe (zap)) (zae (qe (zap)) (zaw)))))))
  (zey (zfM (qe (pe_compq (own := ["_law_k"]) (caps := [(1,"_law_is_one"),(2,"_law_words")]) (QH e oe) (fun _ _ _ _ _ _=>hq.comp) ⟨rfl,rfl,rfl,rfl,⟨⟨rfl,rfl,.inl rfl⟩,⟨rfl,rfl,.inl rfl⟩,trivial⟩⟩ (pi_range1q rfl T.n_range (zaa (zac) zab)) (fun _ _ _ _ _ _=>zai (i:=0) (zaM (by decide +kernel)) rfl (Or.inl rfl)) (fun _ _ _ _ _ _=>zci (zbv (zaz (zbS K rfl) (pv 1) (pv 0) (fun _ _=>rfl)))) (fun _ _ _ _ _ _=>zaz (zbS K rfl) (pv 2) (pv 0) (fun _ _=>rfl)))))))))))))),?_⟩
  have M:Same H H:=Same.refl H
  refine ⟨_,rfl,_,_,D,oe,_,rfl,pin,F.cls,F.kit 0 (by decide),_,rfl,_,_,D,oe,_,rfl,pin,F.cls,F.kit 1 (by decide),_,rfl,_,_,D,oe,_,rfl,pin,F.cls,F.kit 2 (by decide),bigr rfl,fun a0 na => ?_⟩
  obtain ⟨M,e1⟩:=M.lstE (o := .lst [kb j 0,kb j 1,kb j 2]) na
  clear na
  refine ⟨_,rfl,_,rfl,_,_,D,oe,_,rfl,pin,F.cls,F.kit 3 (by decide),_,rfl,_,_,D,oe,_,rfl,pin,F.cls,F.kit 4 (by decide),_,rfl,_,_,D,oe,_,rfl,pin,F.cls,F.kit 5 (by decide),bigr rfl,fun a1 na => ?_⟩
  obtain ⟨M,e2⟩:=M.lstE (o := .lst [kb j 3,kb j 4,kb j 5]) na
  replace e1:=za2 (o := .lst [kb j 3,kb j 4,kb j 5]) e1 na
  clear na
  refine ⟨_,_,_,_,rfl,rfl,e1,e2,bigr rfl,fun c1 nc => ?_⟩
  obtain ⟨M,e1⟩:=M.lstE (o := .lst [kb j 0,kb j 1,kb j 2,kb j 3,kb j 4,kb j 5]) nc
  clear nc e2
  refine ⟨_,rfl,_,rfl,_,_,D,oe,_,rfl,pin,F.cls,F.kit 6 (by decide),_,rfl,_,_,D,oe,_,rfl,pin,F.cls,F.kit 7 (by decide),bigr rfl,fun a2 na => ?_⟩
  obtain ⟨M,e2⟩:=M.lstE (o := .lst [kb j 6,kb j 7]) na
  replace e1:=za2 (o := .lst [kb j 6,kb j 7]) e1 na
  clear na
  refine ⟨_,_,_,_,rfl,rfl,e1,e2,bigr rfl,fun c2 nc => ?_⟩
  obtain ⟨M,e1⟩:=M.lstE (o := .lst [kb j 0,kb j 1,kb j 2,kb j 3,kb j 4,kb j 5,kb j 6,kb j 7]) nc
  clear nc e2
  refine ⟨_,rfl,_,rfl,_,_,D,oe,_,rfl,pin,F.cls,F.kit 8 (by decide),_,rfl,_,_,D,oe,_,rfl,pin,F.cls,F.kit 9 (by decide),bigr rfl,fun a3 na => ?_⟩
  obtain ⟨M,e2⟩:=M.lstE (o := .lst [kb j 8,kb j 9]) na
  replace e1:=za2 (o := .lst [kb j 8,kb j 9]) e1 na
  clear na
  refine ⟨_,_,_,_,rfl,rfl,e1,e2,bigr rfl,fun c3 nc => ?_⟩
  obtain ⟨M,e1⟩:=M.lstE (o := .lst [kb j 0,kb j 1,kb j 2,kb j 3,kb j 4,kb j 5,kb j 6,kb j 7,kb j 8,kb j 9]) nc
  clear nc e2
  refine ⟨_,rfl,_,rfl,_,_,D,oe,_,rfl,pin,F.cls,F.kit 10 (by decide),_,rfl,_,_,D,oe,_,rfl,pin,F.cls,F.kit 11 (by decide),bigr rfl,fun a4 na => ?_⟩
  obtain ⟨M,e2⟩:=M.lstE (o := .lst [kb j 10,kb j 11]) na
  replace e1:=za2 (o := .lst [kb j 10,kb j 11]) e1 na
  clear na
  refine ⟨_,_,_,_,rfl,rfl,e1,e2,bigr rfl,fun c4 nc => ?_⟩
  obtain ⟨M,e1⟩:=M.lstE (o := .lst [kb j 0,kb j 1,kb j 2,kb j 3,kb j 4,kb j 5,kb j 6,kb j 7,kb j 8,kb j 9,kb j 10,kb j 11]) nc
  clear nc e2
  refine ⟨_,rfl,_,rfl,_,_,D,oe,_,rfl,pin,F.cls,F.kit 12 (by decide),_,rfl,_,_,D,oe,_,rfl,pin,F.cls,F.kit 13 (by decide),_,rfl,_,_,D,oe,_,rfl,pin,F.cls,F.kit 14 (by decide),bigr rfl,fun a5 na => ?_⟩
  obtain ⟨M,e2⟩:=M.lstE (o := .lst [kb j 12,kb j 13,kb j 14]) na
  replace e1:=za2 (o := .lst [kb j 12,kb j 13,kb j 14]) e1 na
  clear na
  refine ⟨_,_,_,_,rfl,rfl,e1,e2,bigr rfl,fun c5 nc => ?_⟩
  obtain ⟨M,e1⟩:=M.lstE (o := .lst [kb j 0,kb j 1,kb j 2,kb j 3,kb j 4,kb j 5,kb j 6,kb j 7,kb j 8,kb j 9,kb j 10,kb j 11,kb j 12,kb j 13,kb j 14]) nc
  clear nc e2
  refine ⟨bigr rfl,fun w0 nw => ?_⟩
  obtain ⟨M,f1⟩:=M.lstE (o := .lst [V.str (Str.ofString "BadName"),V.str (Str.ofString "BadTeeth"),V.str (Str.ofString "NameTaken"),V.str (Str.ofString "BookFull"),V.str (Str.ofString "NoComb"),V.str (Str.ofString "BadTooth"),V.str (Str.ofString "ToothThere")]) nw
  replace e1:=za2 (o := .lst [V.str (Str.ofString "BadName"),V.str (Str.ofString "BadTeeth"),V.str (Str.ofString "NameTaken"),V.str (Str.ofString "BookFull"),V.str (Str.ofString "NoComb"),V.str (Str.ofString "BadTooth"),V.str (Str.ofString "ToothThere")]) e1 nw
  clear nw
  refine ⟨_,rfl,bigr rfl,fun w1 nw => ?_⟩
  obtain ⟨M,f2⟩:=M.lstE (o := .lst [V.str (Str.ofString "FirstTooth"),V.str (Str.ofString "ToothMissing"),V.str (Str.ofString "DeedsFull"),V.str (Str.ofString "NothingDone"),V.str (Str.ofString "BadShape")]) nw
  replace e1:=za2 (o := .lst [V.str (Str.ofString "FirstTooth"),V.str (Str.ofString "ToothMissing"),V.str (Str.ofString "DeedsFull"),V.str (Str.ofString "NothingDone"),V.str (Str.ofString "BadShape")]) e1 nw
  replace f1:=za2 (o := .lst [V.str (Str.ofString "FirstTooth"),V.str (Str.ofString "ToothMissing"),V.str (Str.ofString "DeedsFull"),V.str (Str.ofString "NothingDone"),V.str (Str.ofString "BadShape")]) f1 nw
  clear nw
  refine ⟨_,_,_,_,rfl,rfl,f1,f2,bigr rfl,fun x1 nx => ?_⟩
  obtain ⟨M,f1⟩:=M.lstE (o := .lst [V.str (Str.ofString "BadName"),V.str (Str.ofString "BadTeeth"),V.str (Str.ofString "NameTaken"),V.str (Str.ofString "BookFull"),V.str (Str.ofString "NoComb"),V.str (Str.ofString "BadTooth"),V.str (Str.ofString "ToothThere"),V.str (Str.ofString "FirstTooth"),V.str (Str.ofString "ToothMissing"),V.str (Str.ofString "DeedsFull"),V.str (Str.ofString "NothingDone"),V.str (Str.ofString "BadShape")]) nx
  replace e1:=za2 (o := .lst [V.str (Str.ofString "BadName"),V.str (Str.ofString "BadTeeth"),V.str (Str.ofString "NameTaken"),V.str (Str.ofString "BookFull"),V.str (Str.ofString "NoComb"),V.str (Str.ofString "BadTooth"),V.str (Str.ofString "ToothThere"),V.str (Str.ofString "FirstTooth"),V.str (Str.ofString "ToothMissing"),V.str (Str.ofString "DeedsFull"),V.str (Str.ofString "NothingDone"),V.str (Str.ofString "BadShape")]) e1 nx
  clear nx f2
  refine ⟨_,rfl,bigr rfl,fun w2 nw => ?_⟩
  obtain ⟨M,f2⟩:=M.lstE (o := .lst [V.str (Str.ofString "BadPlace"),V.str (Str.ofString "BadLength"),V.str (Str.ofString "NoFilling")]) nw
  replace e1:=za2 (o := .lst [V.str (Str.ofString "BadPlace"),V.str (Str.ofString "BadLength"),V.str (Str.ofString "NoFilling")]) e1 nw
  replace f1:=za2 (o := .lst [V.str (Str.ofString "BadPlace"),V.str (Str.ofString "BadLength"),V.str (Str.ofString "NoFilling")]) f1 nw
  clear nw
  refine ⟨_,_,_,_,rfl,rfl,f1,f2,bigr rfl,fun x2 nx => ?_⟩
  obtain ⟨M,f1⟩:=M.lstE (o := .lst [V.str (Str.ofString "BadName"),V.str (Str.ofString "BadTeeth"),V.str (Str.ofString "NameTaken"),V.str (Str.ofString "BookFull"),V.str (Str.ofString "NoComb"),V.str (Str.ofString "BadTooth"),V.str (Str.ofString "ToothThere"),V.str (Str.ofString "FirstTooth"),V.str (Str.ofString "ToothMissing"),V.str (Str.ofString "DeedsFull"),V.str (Str.ofString "NothingDone"),V.str (Str.ofString "BadShape"),V.str (Str.ofString "BadPlace"),V.str (Str.ofString "BadLength"),V.str (Str.ofString "NoFilling")]) nx
  replace e1:=za2 (o := .lst [V.str (Str.ofString "BadName"),V.str (Str.ofString "BadTeeth"),V.str (Str.ofString "NameTaken"),V.str (Str.ofString "BookFull"),V.str (Str.ofString "NoComb"),V.str (Str.ofString "BadTooth"),V.str (Str.ofString "ToothThere"),V.str (Str.ofString "FirstTooth"),V.str (Str.ofString "ToothMissing"),V.str (Str.ofString "DeedsFull"),V.str (Str.ofString "NothingDone"),V.str (Str.ofString "BadShape"),V.str (Str.ofString "BadPlace"),V.str (Str.ofString "BadLength"),V.str (Str.ofString "NoFilling")]) e1 nx
  clear nx f2
  refine ⟨_,rfl,by decide,by decide,fun Dc hD => ?_⟩
  refine zbY (capv := [some (.ref c5),some (.ref x2)]) (by rfl) (zaK 0 (15:Int).toNat) (bigr rfl) hD ?_ (isJ j) wordJ ?_ ?_ ?_
  ·exact fun _ _=>trivial
  ·intro v hv H' R s' h
   obtain ⟨t,ht,rfl⟩:=List.mem_map.mp hv
   have ht15:t < 15:=List.mem_range.mp ht
   refine ⟨_,rfl,_,rfl,_,_,_,_,rfl,rfl,SqL.of (s' _ _ e1),(?_:atI (kBools j) (0 + ((t:Nat):Int))=some (kb j t)),_,rfl,?_⟩
   ·rw [Int.zero_add]
    refine zas ?_
    unfold kBools
    rw [List.getElem?_map,List.getElem?_range ht15]
    rfl
   ·have e:isJ j (.int (0 + ((t:Nat):Int)))=decide (t=j):=by
     show decide ((0 + ((t:Nat):Int)).toNat=j)=_
     rw [Int.zero_add,Int.toNat_natCast]
    have h:=h H' (Same.refl _)
    rw [e] at h
    exact h
  ·intro v hv hp H' R s' h
   obtain ⟨t,ht,rfl⟩:=List.mem_map.mp hv
   have ht15:t < 15:=List.mem_range.mp ht
   refine ⟨_,rfl,_,rfl,_,_,_,_,rfl,rfl,SqL.of (s' _ _ f1),(?_:atI (errNames.map V.str) (0 + ((t:Nat):Int))=some (wordJ (.int (0 + ((t:Nat):Int))))),h H' (Same.refl _)⟩
   rw [Int.zero_add]
   refine zas ?_
   have hl:t < errNames.length:=ht15
   show (errNames.map V.str)[t]?=some (.str (errName ((t:Nat):Int).toNat))
   rw [List.getElem?_map,List.getElem?_eq_getElem hl,Int.toNat_natCast]
   unfold errName
   rw [List.getD_eq_getElem?_getD,List.getElem?_eq_getElem hl]
   rfl
  ·intro H' s' e
   rw [kind_res F.lt] at e
   exact q _ H' (M.trans s') (M.free hD) e
theorem at0 {x y:V}:atI [x,y] 0=some x:=show atI [x,y] ((0:Nat):Int)=_ from zas rfl
theorem at1 {x y:V}:atI [x,y] 1=some y:=show atI [x,y] ((1:Nat):Int)=_ from zas rfl
noncomputable def sp_refused (K:W.Frag):Sp:=fun vs H Q _=>∃ (a l:Addr) (x:Str),vs = [.ref a,.str x]/\PyData.strOk x=true/\H a=some (.tup [.str (Str.ofString "refused"),.ref l])/\H l=some (.lst [.str x])/\∀ H',Same H H'->Q (.bl true) H'
theorem zda {x:Str} (h:PyData.strOk x=true):SeqAt.shaped (.list [.str x])=true:=by simp [h,SeqAt.shaped,PyData.canLay0,PyData.canLayAll0,PyData.depth,PyData.depthAll]
theorem eqv_one (x:Str):PyData.eqv (.list [.str x]) (.list [.str x])=true:=by simp [PyData.eqv,PyData.eqvAll]
theorem zdc:FnScope ["_law_found","_law_due"] ["_law_found","_law_due"] (defScope s_refused):=⟨rfl,rfl,rfl,by decide +kernel,rfl,by decide +kernel,by decide +kernel⟩
theorem ok_refused (D:DefAt K mg "_law_refused" s_refused) (T:Bn mg):Callee P w K mg base "_law_refused" 2 ["_law_found","_law_due"] (sp_refused K):=by
 refine D.callee zdc (fun _ _ _ _ _ _=>ln2 fun _ _=>rfl) (fun vs H Q E h => ?_) (fun f cdv A outer s H vs Q E hr h => ?_)
 ·obtain ⟨a,l,x,rfl,_⟩:=h
  rfl
 ·obtain ⟨a,l,x,rfl,hok,ha,hl,q⟩:=h
  have S:=zdc
  have a0:atI [V.str (Str.ofString "refused"),V.ref l] 0=some (V.str (Str.ofString "refused")):=at0
  have a1:atI [V.str (Str.ofString "refused"),V.ref l] 1=some (V.ref l):=at1
  refine ⟨_,zad (zaG (PW.pt (zfv (zbp (zbv (zah (zbA "tuple") rfl T.n_isinstance boot_isinstance (zaa (pv 0) (zaa (zb1 (v := .ty "tuple") rfl T.n_tuple boot_tuple rfl) zab))))) (zfv (zao zeB (zah zau rfl T.n_len PySem.boot_len (zaa (pv 0) zab)) (zac) (zat _)) (zfc (zao zeB (zaz za6 (pv 0) (zac) (fun _ _=>rfl)) (zap) (zat _))))))
   (zaf (zaj (zbI)))
   (zan))
  (zaf (zaj (zcJ (zfl hr.units) (zaz za6 (pv 0) (zac) (fun _ _=>rfl)) (zaN (zaa (pv 1) zab)) (zat _)))),?_⟩
  refine ⟨_,rfl,_,_,true,rfl,.tup ha,rfl,_,rfl,?_⟩
  refine iteF ?_
  refine ⟨_,rfl,_,_,rfl,.inr (SqT.of ha),rfl,_,rfl,?_⟩
  refine iteF ?_
  refine ⟨_,rfl,_,_,_,_,rfl,rfl,SqT.of ha,a0,rfl,_,rfl,?_⟩
  refine iteF ?_
  refine ⟨_,rfl,_,_,_,_,rfl,rfl,SqT.of ha,a1,_,rfl,bigr rfl,fun p np => ?_⟩
  have s1:Same H (upd H p (.lst [.str x])):=Same.new np
  refine ⟨_,_,.lst (SqL.of (s1 _ _ hl)) (.cons (.str x) .nil),.lst (SqL.of upd_same) (.cons (.str x) .nil),zda hok,zda hok,?_⟩
  rw [if_neg Bool.false_ne_true,eqv_one]
  exact q _ s1
noncomputable def sp_told (K:W.Frag):Sp:=fun vs H Q _=>∃ (a:Addr) (d:Int),vs = [.ref a,.int d]/\H a=some (.tup [.str (Str.ofString "told"),.int d])/\Q (.bl true) H
theorem zfE:FnScope ["_law_found","_law_due"] ["_law_found","_law_due"] (defScope s_told):=⟨rfl,rfl,rfl,by decide +kernel,rfl,by decide +kernel,by decide +kernel⟩
theorem ok_told (D:DefAt K mg "_law_told" s_told) (T:Bn mg) (C_whole:Callee P w K mg base "_law_whole" 1 ["_law_found"] sp_whole):Callee P w K mg base "_law_told" 2 ["_law_found","_law_due"] (sp_told K):=by
 refine D.callee zfE (fun _ _ _ _ _ _=>ln2 fun _ _=>rfl) (fun vs H Q E h => ?_) (fun f cdv A outer s H vs Q E hr h => ?_)
 ·obtain ⟨a,d,rfl,_⟩:=h
  rfl
 ·obtain ⟨a,d,rfl,ha,q⟩:=h
  have S:=zfE
  have a0:atI [V.str (Str.ofString "told"),V.int d] 0=some (V.str (Str.ofString "told")):=at0
  have a1:atI [V.str (Str.ofString "told"),V.int d] 1=some (V.int d):=at1
  refine ⟨_,zad (zaG (PW.pt (zfv (zbp (zbv (zah (zbA "tuple") rfl T.n_isinstance boot_isinstance (zaa (pv 0) (zaa (zb1 (v := .ty "tuple") rfl T.n_tuple boot_tuple rfl) zab))))) (zfv (zao zeB (zah zau rfl T.n_len PySem.boot_len (zaa (pv 0) zab)) (zac) (zat _)) (zfc (zao zeB (zaz za6 (pv 0) (zac) (fun _ _=>rfl)) (zap) (zat _))))))
   (zaf (zaj (zbI)))
   (zan))
  (zaf (zaj (zd1 (zaD C_whole (hr.mono (by decide)) rfl (zaa (zaz za6 (pv 0) (zac) (fun _ _=>rfl)) zab)) (zfh (zcJ zbT (zaz za6 (pv 0) (zac) (fun _ _=>rfl)) (pv 1) (zat _)))))),?_⟩
  refine ⟨_,rfl,_,_,true,rfl,.tup ha,rfl,_,rfl,?_⟩
  refine iteF ?_
  refine ⟨_,rfl,_,_,rfl,.inr (SqT.of ha),rfl,_,rfl,?_⟩
  refine iteF ?_
  refine ⟨_,rfl,_,_,_,_,rfl,rfl,SqT.of ha,a0,rfl,_,rfl,?_⟩
  have e0:(!decide (V.str (Str.ofString "told")=V.str (Str.ofString "told")))=false:=by simp
  refine iteF ?_
  refine ⟨_,rfl,_,_,_,_,rfl,rfl,SqT.of ha,a1,d,rfl,_,rfl,?_⟩
  refine iteT ?_
  refine ⟨_,rfl,_,_,_,_,rfl,rfl,SqT.of ha,a1,_,rfl,rfl,?_⟩
  have e1:decide (V.int d=V.int d)=true:=decide_eq_true rfl
  rw [e1]
  exact q
theorem zgA {ks:List (Str×List Int)} (nd:(ks.map (·.1)).Nodup) {i:Nat} {k:Str×List Int} (h:ks[i]?=some k):cGet (ks.take i) k.1=none:=by
 rw [get_none]
 intro hm
 obtain ⟨c,hc,e⟩:=List.mem_map.mp hm
 obtain ⟨j,hj,ej⟩:=List.getElem_of_mem hc
 have hi:=(List.getElem?_eq_some_iff.mp h).1
 have hj':j < i:=by
  have:=hj
  rw [List.length_take] at this
  omega
 have e1:(ks.map (·.1))[j]?=some k.1:=by
  rw [List.getElem?_map,List.getElem?_eq_getElem (by omega)]
  rw [List.getElem_take] at ej
  rw [ej]
  exact congrArg some e
 have e2:(ks.map (·.1))[i]?=some k.1:=by rw [List.getElem?_map,h]; rfl
 have:=(List.getElem?_inj (by rw [List.length_map]; omega) nd).mp (e1.trans e2.symm)
 omega
noncomputable def sp_mkbook (C:Addr):Sp:=fun vs H Q _=>∃ (a:Addr) (ws:List V) (ks:List (Str×List Int)),vs = [.ref a]/\H a=some (.lst ws)/\Drawn (fun _=>True) H ws ks/\ks.length<=8 /\
 ∀ b l G past H',Same H H'->H b=none->H l=none->(∀ x,G x->H x=none)->Bk C G H' b l ks past->past.length=ks.length->Q (.ref b) H'
theorem zfJ:FnScope ["_law_kinds","_law_book_here","_law_word_here","_law_teeth_here"] ["_law_kinds"] (defScope s_book):=⟨rfl,rfl,rfl,by decide +kernel,rfl,by decide +kernel,by decide +kernel⟩
theorem ok_mkbook {ea:Nat->Addr} {C:Addr} (D:DefAt K mg "_law_book" s_book) (T:Bn mg) (BA:BookAt K C) (C_Book:Maker P w K mg base "Book" C CX0 1 ["self"] (sp_init C)) (M_put:Method P w K mg base C "put" (CX1 P w) 3 ["self","name","teeth"] (sp_put (K:=K) ea C)):Callee P w K mg base "_law_book" 4 ["_law_kinds"] (sp_mkbook C):=by
 refine D.callee zfJ (fun _ _ _ _ _ _=>ln1 fun _=>rfl) (fun vs H Q E h => ?_) (fun f cdv A outer s H vs Q E hr h => ?_)
 ·obtain ⟨a,ws,ks,rfl,_⟩:=h
  rfl
 ·obtain ⟨a,ws,ks,rfl,ha,dr,hk8,q⟩:=h
  have S:=zfJ
  have hu:=zcx hr
  have B_cls:=BA.cls
  have hlen:=dr.rows.length
  refine ⟨_,zad (zam (i:=1) S.nd rfl (Or.inl rfl) (pe_mk0 C_Book (hr.mono (by decide)) (by first | exact zc1 | exact zaq | exact zbh | exact zaA) rfl))
  (zad (zaT PassesOwn.never rfl (zar (pv 0)) (zff rfl (zax (zai (i:=2) S.nd rfl (Or.inl rfl)) (zax (zai (i:=3) S.nd rfl (Or.inl rfl)) (zbs))))
   (zaf (zaI (zeA (pv 1) B_cls M_put (hr.mono (by decide)) (by first | exact zc1 | exact zaq | exact zbh | exact zaA) (zaa (pv 2) (zaa (zbw zbO rfl T.n_list boot_list (zaa (pv 3) zab)) zab))))))
  (zaf (zaj (pv 1)))),?_⟩
  refine fun b dx nb ndx ndb=>⟨b,dx,rfl,upd_same,fun H1 l d m nl nd B=>⟨rfl,?_⟩⟩
  have hlb:l≠b:=fun z=>by rw [z,upd_same] at nl; cases nl
  have nl0:H l=none:=by
   rw [zag hlb] at nl
   by_cases z:l=dx
   ·rw [z]; exact ndx
   ·rw [zag z] at nl; exact nl
  have hdb:d≠b:=fun z=>by rw [z,upd_same] at nd; cases nd
  have nd0:H d=none:=by
   rw [zag hdb] at nd
   by_cases z:d=dx
   ·rw [z]; exact ndx
   ·rw [zag z] at nd; exact nd
  have s1:Same H H1:=fun x o e=>m.keep x o (by rw [zag (zal e nb),zag (zal e ndx)]; exact e) (zal e nb) (zal e nb)
  refine ⟨_,rfl,_,rfl,⟨_,SqL.of (s1 _ _ ha)⟩,?_⟩
  refine zbl (zak K a ws) (fun i σ H2=>Same H H2/\∃ G past x2 x3,σ = [some (.ref a),some (.ref b),x2,x3]/\Bk C G H2 b l (ks.take i) past/\past.length=i/\∀ x,G x->H x=none) ⟨s1,_,[],_,_,rfl,B,rfl,fun x g=>by rw [show x=d from g]; exact nd0⟩ (fun i σ H2 _ h=>SqL.of (h.1 _ _ ha)) ?_ ?_
  ·rintro i x σ H2 hx ⟨s2,G,past,x2,x3,rfl,B2,hp,hG⟩
   obtain ⟨k,qa,t,hk,rfl,hq,ht⟩:=(dr.same s2).rows.get hx
   have hi:i < ks.length:=(List.getElem?_eq_some_iff.mp hk).1
   obtain ⟨hkn,hkg⟩:=dr.good k (List.mem_of_getElem? hk)
   obtain ⟨dx2,d2,hb2,_⟩:=id B2.ins
   refine ⟨qa,_,rfl,SqL.of hq,rfl,_,_,rfl,_,_,rfl,rfl,?_⟩
   refine ⟨_,rfl,b,dx2,_,rfl,hb2,rfl,_,rfl,_,rfl,t,_,rfl,.inl (SqL.of ht),fun p np => ?_⟩
   have s3:Same H2 (upd H2 p (.lst (k.2.map V.int))):=Same.new np
   refine ⟨b,l,G,_,past,k.1,p,k.2,rfl,B2.same s3,SqL.of upd_same,?_,?_,?_⟩
   ·exact big (by have:=name_len hkn; omega)
   ·have:=zgB hkg; omega
   have hlt:(ks.take i).length=i:=by rw [List.length_take]; omega
   have e:putD (ks.take i) past k.1 k.2 = .ok (ks.take (i + 1)):=by
    unfold putD full
    rw [if_neg (by rw [hkn]; decide),if_neg (by rw [gt_teeth hkg]; decide),zgA dr.nd hk,if_neg (by simp),if_neg (by omega),if_neg (by omega),zfN (zgA dr.nd hk),gt_eq hkg,zaE hk]
   rw [e]
   intro H4 G4 m4 B4
   refine ⟨fun x o e'=>m4.keep x o (s3 _ _ (s2 _ _ e')) (zal e' nb) (zal e' nl0),G4,_,_,_,rfl,B4,by rw [List.length_append,List.length_singleton,hp],fun x g => ?_⟩
   rcases m4.new x g with g | g
   ·exact hG x g
   ·exact (s2.trans s3).free g
  ·rintro σ H2 ⟨s2,G,past,x2,x3,rfl,B2,hp,hG⟩
   rw [List.take_of_length_le (by omega)] at B2
   exact ⟨_,rfl,q b l G past H2 s2 nb nl0 hG B2 (by omega)⟩
noncomputable def tellT (Q:VK):VK:=fun v H1=>(2:Nat)<=sizeLine/\∀ p,H1 p=none->Q (.ref p) (upd H1 p (.tup [.str (Str.ofString "told"),v]))
noncomputable def refuT (K:W.Frag) (ea:Nat->Addr) (ce:Value) (Q:VK):XK:=fun c _ H1=>∃ D j,c = .ref D/\KindF K ea D j/\PySem.W.exmOne K (.ref D) ce=some true/\∀ p l H2,Same H1 H2->H1 l=none->H2 l=some (.lst [.str (errName j)])->H2 p=none->Q (.ref p) (upd H2 p (.tup [.str (Str.ofString "refused"),.ref l]))
noncomputable def spTry1 (K:W.Frag) (ea:Nat->Addr) (ce:Value) (C:Addr) (m:Str) (sp:Sp):Sp:=fun vs H Q _=>∃ b x dx fs,vs = [.ref b,x]/\H b=some (.ins C dx fs)/\fs.lookup m=none/\sp [.ref b,x] H (tellT Q) (refuT K ea ce Q)
noncomputable def spTry2 (K:W.Frag) (ea:Nat->Addr) (ce:Value) (C:Addr) (m:Str) (sp:Sp):Sp:=fun vs H Q _=>∃ b x y dx fs,vs = [.ref b,x,y]/\H b=some (.ins C dx fs)/\fs.lookup m=none/\sp [.ref b,x,y] H (tellT Q) (refuT K ea ce Q)
noncomputable def spTry0 (K:W.Frag) (ea:Nat->Addr) (ce:Value) (C:Addr) (m:Str) (sp:Sp):Sp:=fun vs H Q _=>∃ b dx fs,vs = [.ref b]/\H b=some (.ins C dx fs)/\fs.lookup m=none/\sp [.ref b] H (tellT Q) (refuT K ea ce Q)
theorem ej_re {K:W.Frag} {ea:Nat->Addr} {ce:Value} {j:Nat} (e:EJ K ea ce j) {Q:VK} {H:Hp} (q:∀ p l H2,Same H H2->H l=none->H2 l=some (.lst [.str (errName j)])->H2 p=none->Q (.ref p) (upd H2 p (.tup [.str (Str.ofString "refused"),.ref l]))):refuT K ea ce Q (.ref (ea j)) none H:=⟨ea j,j,rfl,e.kf,e.ex,q⟩
noncomputable def Ans (H:Hp) (fd:Addr):Except Nat Int->Prop
 | .ok n=>H fd=some (.tup [.str (Str.ofString "told"),.int n])
 | .error j=>∃ le,H fd=some (.tup [.str (Str.ofString "refused"),.ref le])/\H le=some (.lst [.str (errName j)])
theorem Ans.same {H H':Hp} {fd:Addr} {r:Except Nat Int} (a:Ans H fd r) (s:Same H H'):Ans H' fd r:=by
 cases r with
 | ok n=>exact s _ _ a
 | error j=>obtain ⟨le,h1,h2⟩:=a; exact ⟨le,s _ _ h1,s _ _ h2⟩
theorem zf9 {K:W.Frag} {ea:Nat->Addr} {ce:Value} {j:Nat} (e:EJ K ea ce j) {Q:VK} {H:Hp} (q:∀ fd H2,Same H H2->Ans H2 fd (.error j)->Q (.ref fd) H2):refuT K ea ce Q (.ref (ea j)) none H :=
 ej_re e fun p le H2 s nle hle np=>q p _ (s.put (s.free np)) ⟨le,upd_same,by rw [zag (zal hle np)]; exact hle⟩
noncomputable def csOf (r:Except Nat Combs) (cs:Combs):Combs:=match r with
 | .ok c=>c
 | .error _=>cs
noncomputable def pastOf (r:Except Nat Combs) (cs:Combs) (past:List Combs):List Combs:=match r with
 | .ok _=>past ++ [cs]
 | .error _=>past
noncomputable def ansOf (r:Except Nat Combs) (past:List Combs):Except Nat Int:=match r with
 | .ok _ => .ok ((past.length:Int) + 1)
 | .error j => .error j
theorem deed_try {K:W.Frag} {ea:Nat->Addr} {ce:Value} {C b l:Addr} {G:Addr->Prop} {H:Hp} {cs:Combs} {past:List Combs} {Q:VK} {r:Except Nat Combs} (B:Bk C G H b l cs past) (ej:∀ j,r = .error j->EJ K ea ce j)
  (q:∀ Hx fd Gx,Mv b l G Gx H Hx->Bk C Gx Hx b l (csOf r cs) (pastOf r cs past)->Ans Hx fd (ansOf r past)->Q (.ref fd) Hx):Deed ea C G H b l cs past (tellT Q) (refuT K ea ce Q) r:=by
 cases r with
 | error j =>
  intro H' s
  exact zf9 (ej j rfl) fun fd H2 s2 a=>q H2 fd G (Mv.ofSame (s.trans s2)) (B.same (s.trans s2)) a
 | ok cs' =>
  intro H' G' m B'
  refine ⟨bigr rfl,fun p np => ?_⟩
  have s2:Same H' (upd H' p (.tup [.str (Str.ofString "told"),.int ((past.length:Int) + 1)])):=Same.new np
  exact q _ p G' (m.trans (Mv.ofSame s2)) (B'.same s2) upd_same
noncomputable def spLaw (K:W.Frag):Sp:=fun vs H Q _=>∃ (a:Addr) (ns:List Int),vs = [.ref a]/\SqL K H a (ns.map V.int)/\ns.length<=63/\∀ H',Q (.bl true) H'
noncomputable def sp_laying:Sp:=fun vs H Q _=>∃ (q:Addr) (a:Int) (x:Str),vs = [.ref q]/\H q=some (.tup [.int a,.str x])/\Q (.bl true) H
theorem zdX:FnScope ["_law_one"] ["_law_one"] (defScope s_laying):=⟨rfl,rfl,rfl,by decide +kernel,rfl,by decide +kernel,by decide +kernel⟩
theorem ok_laying (D:DefAt K mg "_law_laying" s_laying) (T:Bn mg) (C_whole:Callee P w K mg base "_law_whole" 1 ["_law_found"] sp_whole):Callee P w K mg base "_law_laying" 2 ["_law_one"] sp_laying:=by
 refine D.callee zdX (fun _ _ _ _ _ _=>ln1 fun _=>rfl) (fun vs H Q E h => ?_) (fun f cdv A outer s H vs Q E hr h => ?_)
 ·obtain ⟨qa,a,x,rfl,_⟩:=h
  rfl
 ·obtain ⟨qa,a,x,rfl,hq,q⟩:=h
  have S:=zdX
  refine ⟨_,zad (zaG (PW.pt (zfv (zbp (zbv (zah (zbA "tuple") rfl T.n_isinstance boot_isinstance (zaa (pv 0) (zaa (zb1 (v := .ty "tuple") rfl T.n_tuple boot_tuple rfl) zab))))) (zfc (zao zeB (zah zau rfl T.n_len PySem.boot_len (zaa (pv 0) zab)) (zac) (zat _)))))
   (zaf (zaj (zbI)))
   (zan))
  (zaf (zaj (zd1 (zaD C_whole (hr.mono (by decide)) rfl (zaa (zaz za6 (pv 0) (zac) (fun _ _=>rfl)) zab)) (zfh (zah (zbA "str") rfl T.n_isinstance boot_isinstance (zaa (zaz za6 (pv 0) (zac) (fun _ _=>rfl)) (zaa (zb1 (v := .ty "str") rfl T.n_str boot_str rfl) zab))))))),?_⟩
  refine ⟨_,rfl,_,_,true,rfl,.tup hq,rfl,_,rfl,?_⟩
  refine iteF ?_
  refine ⟨_,rfl,_,_,rfl,.inr (SqT.of hq),rfl,_,rfl,?_⟩
  refine iteF ?_
  refine ⟨_,rfl,_,_,_,_,rfl,rfl,SqT.of hq,at0,a,rfl,_,rfl,?_⟩
  refine iteT ?_
  exact ⟨_,rfl,_,_,_,_,rfl,rfl,SqT.of hq,at1,_,_,true,rfl,.str x,rfl,q⟩
noncomputable def sp_layings:Sp:=fun vs H Q _=>∃ (p:Addr) (ws:List V),vs = [.ref p]/\H p=some (.lst ws)/\(∀ (i:Nat) x,ws[i]?=some x->∃ q a s,x = .ref q/\H q=some (.tup [.int a,.str s]))/\Q (.bl true) H
theorem zdd:FnScope ["_law_found","_law_one"] ["_law_found"] (defScope s_layings):=⟨rfl,rfl,rfl,by decide +kernel,rfl,by decide +kernel,by decide +kernel⟩
theorem ok_layings (D:DefAt K mg "_law_layings" s_layings) (T:Bn mg) (C_laying:Callee P w K mg base "_law_laying" 2 ["_law_one"] sp_laying):Callee P w K mg base "_law_layings" 3 ["_law_found"] sp_layings:=by
 refine D.callee zdd (fun _ _ _ _ _ _=>ln1 fun _=>rfl) (fun vs H Q E h => ?_) (fun f cdv A outer s H vs Q E hr h => ?_)
 ·obtain ⟨p,ws,rfl,_⟩:=h
  rfl
 ·obtain ⟨p,ws,rfl,hp,hw,q⟩:=h
  have S:=zdd
  refine ⟨_,zad (zaG (zbp (zbv (zah (zbA "list") rfl T.n_isinstance boot_isinstance (zaa (pv 0) (zaa (zb1 (v := .ty "list") rfl T.n_list boot_list rfl) zab)))))
   (zaf (zaj (zbI)))
   (zan))
  (zad (zaT PassesOwn.never rfl (zar (pv 0)) (zai (i:=1) S.nd rfl (Or.inl rfl))
   (zaf (zaG (zbp (zbv (zaD C_laying (hr.mono (by decide)) rfl (zaa (pv 1) zab))))
    (zaf (zaj (zbI)))
    (zan))))
  (zaf (zaj (zbI)))),?_⟩
  refine ⟨_,rfl,_,_,true,rfl,.lst hp,rfl,_,rfl,?_⟩
  refine iteF ?_
  refine ⟨_,rfl,_,rfl,⟨_,SqL.of hp⟩,?_⟩
  refine zbl (zak K p ws) (fun i σ Hx=>Hx=H/\∃ x1,σ = [some (.ref p),x1]) ⟨rfl,_,rfl⟩ (fun i σ Hx _ h=>by rw [h.1]; exact SqL.of hp) ?_ ?_
  ·rintro i x σ Hx hx ⟨rfl,x1,rfl⟩
   obtain ⟨qa,a,x',rfl,e⟩:=hw i x hx
   refine ⟨_,rfl,qa,a,x',rfl,e,_,rfl,?_⟩
   refine iteF ?_
   exact ⟨rfl,_,rfl⟩
  ·rintro σ Hx ⟨rfl,x1,rfl⟩
   exact q
theorem at4 {x y z u:V}:atI [x,y,z,u] 0=some x/\atI [x,y,z,u] 1=some y/\atI [x,y,z,u] 2=some z/\atI [x,y,z,u] 3=some u:=⟨show atI _ ((0:Nat):Int)=_ from zas rfl,show atI _ ((1:Nat):Int)=_ from zas rfl,show atI _ ((2:Nat):Int)=_ from zas rfl,show atI _ ((3:Nat):Int)=_ from zas rfl⟩
theorem lays_each {H:Hp} {ws:List V} {nm:Nat->Str} {n:Nat} (r:LaysR H ws nm n):∀ (i:Nat) x,ws[i]?=some x->∃ q a s,x = .ref q/\H q=some (.tup [.int a,.str s]):=fun i x h=>by
 obtain ⟨j,_,q,e1,e2⟩:=Paired.rev r h
 exact ⟨q,_,_,e1,e2⟩
noncomputable def askS (ea:Nat->Addr) (C:Addr) (w:Int) (b x n:V):Hp->VK->XK->Prop:=if w=0 then sp_count ea C [b,n] else if w=1 then sp_ffill ea C [b,n] else if w=2 then sp_countw ea C [b,x,n] else sp_ffillw ea C [b,x,n]
noncomputable def sp_ask (K:W.Frag) (ea:Nat->Addr) (ce:Value) (C:Addr):Sp:=fun vs H Q _=>∃ w b x n,vs = [.int w,b,x,n]/\askS ea C w b x n H (tellT Q) (refuT K ea ce Q)
theorem zgc {i j:Int} (h:¬ i=j):decide (V.int i=V.int j)=false:=by rw [zgH]; exact decide_eq_false h
theorem zeK {i:Int}:decide (V.int i=V.int i)=true:=decide_eq_true rfl
theorem zgr:FnScope ["_law_what","_law_book_here","_law_word_here","_law_length","_law_e"] ["_law_what","_law_book_here","_law_word_here","_law_length"] (defScope s_ask):=⟨rfl,rfl,rfl,by decide +kernel,rfl,by decide +kernel,by decide +kernel⟩
theorem ok_ask (D:DefAt K mg "_law_ask" s_ask) (T:Bn mg) {ea:Nat->Addr} {ce:Value} {C:Addr} (V_CombError:mg "CombError" = some ce) (C_kind:HCallee P w K mg base "_law_kind" 1 ["_law_e"] (spKind K ea))
  (C_count_fillings:Callee1 P w K mg base "count_fillings" 5 ["book","length"] (sp_count ea C)) (C_first_filling:Callee1 P w K mg base "first_filling" 5 ["book","length"] (sp_ffill ea C)) (C_count_fillings_with:Callee1 P w K mg base "count_fillings_with" 5 ["book","name","length"] (sp_countw ea C)) (C_first_filling_with:Callee1 P w K mg base "first_filling_with" 5 ["book","name","length"] (sp_ffillw ea C)):Callee P w K mg base "_law_ask" 6 ["_law_what","_law_book_here","_law_word_here","_law_length"] (sp_ask K ea ce C):=by
 refine D.callee zgr (fun _ _ _ _ _ _=>ln4 fun _ _ _ _=>rfl) (fun vs H Q E h => ?_) (fun f cdv A outer s H vs Q E hr h => ?_)
 ·obtain ⟨w,b,x,n,rfl,_⟩:=h
  rfl
 ·obtain ⟨w,b,x,n,rfl,h⟩:=h
  have S:=zgr
  refine ⟨_,zaf (ps_try (i:=4) rfl rfl S.nd rfl rfl rfl V_CombError (fun E pn=>zad (zaG (zao zbT (pv 0) (zac) (zat _))
    (zaf (zaj (zaY (zaa (zap) (zaa (zbj C_count_fillings (hr.mono (by decide)) (by first | exact zaq | exact zbh | exact zaA) rfl (zaa (pv 1) (zaa (pv 3) zab))) zab)))))
    (zan))
   (zad (zaG (zao zbT (pv 0) (zac) (zat _))
    (zaf (zaj (zaY (zaa (zap) (zaa (zbj C_first_filling (hr.mono (by decide)) (by first | exact zaq | exact zbh | exact zaA) rfl (zaa (pv 1) (zaa (pv 3) zab))) zab)))))
    (zan))
   (zad (zaG (zao zbT (pv 0) (zac) (zat _))
    (zaf (zaj (zaY (zaa (zap) (zaa (zbj C_count_fillings_with (hr.mono (by decide)) (by first | exact zaq | exact zbh | exact zaA) rfl (zaa (pv 1) (zaa (pv 2) (zaa (pv 3) zab)))) zab)))))
    (zan))
   (zaf (zaj (zaY (zaa (zap) (zaa (zbj C_first_filling_with (hr.mono (by decide)) (by first | exact zaq | exact zbh | exact zaA) rfl (zaa (pv 1) (zaa (pv 2) (zaa (pv 3) zab)))) zab))))))))
   (fun x c ox pn vs hc hd h2 hx=>zaf (zaj (zaY (zaa (zap) (zaa (pe_hand C_kind hr hx hc hd h2 (by decide) rfl (zaa (pv 4) zab)) zab)))))),?_⟩
  refine ⟨refuT K ea ce Q,?_,fun c H' x' hE hx' => ?_⟩
  ·unfold askS at h
   refine ⟨_,rfl,rfl,_,rfl,?_⟩
   by_cases h0:w=0
   ·subst h0
    rw [if_pos rfl] at h
    rw [zeK]
    exact iteT ⟨_,rfl,_,rfl,h⟩
   rw [if_neg h0] at h
   rw [zgc h0]
   refine iteF ⟨_,rfl,rfl,_,rfl,?_⟩
   by_cases h1:w=1
   ·subst h1
    rw [if_pos rfl] at h
    rw [zeK]
    exact iteT ⟨_,rfl,_,rfl,h⟩
   rw [if_neg h1] at h
   rw [zgc h1]
   refine iteF ⟨_,rfl,rfl,_,rfl,?_⟩
   by_cases h2:w=2
   ·subst h2
    rw [if_pos rfl] at h
    rw [zeK]
    exact iteT ⟨_,rfl,_,rfl,_,rfl,h⟩
   rw [if_neg h2] at h
   rw [zgc h2]
   exact iteF ⟨_,rfl,_,rfl,_,rfl,h⟩
  obtain ⟨Dd,j,rfl,kf,he,q⟩:=hE
  refine ⟨he,_,rfl,rfl,Dd,j,rfl,kf,fun p H2 s2 n2 e2=>⟨bigr rfl,fun p' np' => ?_⟩⟩
  exact q p' p H2 s2 n2 e2 np'
noncomputable def manyW (cs:Combs) (w:Int) (x:Str) (n:Nat):Nat:=if w=2 then Ww (srt cs) x n 0 else Wy (srt cs) n 0
noncomputable def nmW (cs:Combs) (w:Int) (x:Str) (n:Nat):Nat->Str:=if w=2 then fnm (srt cs) x (Ww (srt cs) x) n else fnm (srt cs) (Str.ofString "") (Wy (srt cs)) n
section
variable {ea:Nat->Addr} {ce:Value} {C:Addr} {G:Addr->Prop} {H:Hp} {b l:Addr} {cs:Combs} {past:List Combs} {x:Str} {n:Nat} {Q:VK} {w:Int}
theorem ask_many {K:W.Frag} (hw:w=0\/w=2) (hx:w=2->(cGet cs x).isSome=true) (hn:n<=200) (B:Bk C G H b l cs past) (q:∀ fd H',Same H H'->H' fd=some (.tup [.str (Str.ofString "told"),.int ((manyW cs w x n:Nat):Int)])->Q (.ref fd) H'):askS ea C w (.ref b) (.str x) (.int ((n:Nat):Int)) H (tellT Q) (refuT K ea ce Q):=by
 have h0:0<=((n:Nat):Int)/\((n:Nat):Int)<=200:=⟨by omega,by omega⟩
 have ek:((n:Nat):Int).toNat=n:=by omega
 rcases hw with rfl | rfl
 ·refine ⟨b,l,G,cs,past,_,rfl,B,?_⟩
  rw [if_pos h0,ek]
  exact fun H' s'=>⟨bigr rfl,fun fd nfd=>q fd _ (s'.trans (Same.new nfd)) upd_same⟩
 ·refine ⟨b,l,G,cs,past,x,_,rfl,B,?_⟩
  rw [if_pos (hx rfl),if_pos h0,ek]
  exact fun H' s'=>⟨bigr rfl,fun fd nfd=>q fd _ (s'.trans (Same.new nfd)) upd_same⟩
theorem ask_first {K:W.Frag} (E14:EJ K ea ce 14) (hw:w=0\/w=2) (hx:w=2->(cGet cs x).isSome=true) (hn:n<=200) (B:Bk C G H b l cs past)
  (q1:0 < manyW cs w x n->∀ fd r wl H',Same H H'->H' fd=some (.tup [.str (Str.ofString "told"),.ref r])->H' r=some (.lst wl)->LaysR H' wl (nmW cs w x n) n->Q (.ref fd) H')
  (q2:¬ 0 < manyW cs w x n->∀ fd H',Same H H'->Ans H' fd (.error 14)->Q (.ref fd) H'):askS ea C (w + 1) (.ref b) (.str x) (.int ((n:Nat):Int)) H (tellT Q) (refuT K ea ce Q):=by
 have h0:0<=((n:Nat):Int)/\((n:Nat):Int)<=200:=⟨by omega,by omega⟩
 have ek:((n:Nat):Int).toNat=n:=by omega
 rcases hw with rfl | rfl
 ·refine ⟨b,l,G,cs,past,_,rfl,B,?_⟩
  rw [if_pos h0,ek]
  refine ite2 (fun h => ?_) (fun h H' s' => ?_)
  ·intro r wl H' s' nr hr lr
   exact ⟨bigr rfl,fun fd nfd=>q1 h fd r wl _ (s'.trans (Same.new nfd)) upd_same (Same.new nfd _ _ hr) (lr.mono fun _ _ z=>Same.new nfd _ _ z)⟩
  ·exact zf9 E14 fun fd H3 s3 an=>q2 h fd H3 (s'.trans s3) an
 ·refine ⟨b,l,G,cs,past,x,_,rfl,B,?_⟩
  rw [if_pos (hx rfl),if_pos h0,ek]
  refine ite2 (fun h => ?_) (fun h H' s' => ?_)
  ·intro r wl H' s' nr hr lr
   exact ⟨bigr rfl,fun fd nfd=>q1 h fd r wl _ (s'.trans (Same.new nfd)) upd_same (Same.new nfd _ _ hr) (lr.mono fun _ _ z=>Same.new nfd _ _ z)⟩
  ·exact zf9 E14 fun fd H3 s3 an=>q2 h fd H3 (s'.trans s3) an
end
theorem lays_each2 {H:Hp} {ws:List V} {nm:Nat->Str} {n:Nat} (r:LaysR H ws nm n):∀ (i:Nat) x,ws[i]?=some x->∃ q a s,x = .ref q/\H q=some (.tup [.int a,.str s]):=fun i x h=>by
 obtain ⟨j,_,q,e1,e2⟩:=Paired.rev r h
 exact ⟨q,_,_,e1,e2⟩
theorem errs_ok:∀ j,j < 15->PyData.strOk (errName j)=true/\errName j≠Str.ofString "" := by decide +kernel
noncomputable def sp_right38 (C:Addr):Sp:=fun vs H Q _=>∃ (b l ev:Addr) (G:Addr->Prop) (cs:Combs) (past:List Combs) (w:Int) (x:Str) (n:Nat) (ws:List V) (ls:List (List (Nat×Str))),vs = [.ref b,.int w,.str x,.int (n:Nat),.ref ev]/\Bk C G H b l cs past/\n<=200/\(w=0\/w=2)/\(w=2->(cGet cs x).isSome=true)/\H ev=some (.lst ws)/\EvR H ws ls/\ls.length=manyW cs w x n/\(0 < manyW cs w x n->ls.head?=some (laysOf (nmW cs w x n) n))/\(∀ y∈ls,∀ z∈y,PyData.strOk z.2=true)/\∀ H',Same H H'->Q (.bl true) H'
theorem ze7:FnScope ["_law_book_here","_law_what","_law_word_here","_law_length","_law_every","_law_found"] ["_law_book_here","_law_what","_law_word_here","_law_length","_law_every"] (defScope s_right):=⟨rfl,rfl,rfl,by decide +kernel,rfl,by decide +kernel,by decide +kernel⟩
theorem ok_right {ea:Nat->Addr} {ce:Value} {C:Addr} (D:DefAt K mg "_law_right" s_right) (T:Bn mg) (E14:EJ K ea ce 14) (C_ask:Callee P w K mg base "_law_ask" 6 ["_law_what","_law_book_here","_law_word_here","_law_length"] (sp_ask K ea ce C)) (C_told:Callee P w K mg base "_law_told" 2 ["_law_found","_law_due"] (sp_told K)) (C_refused:Callee P w K mg base "_law_refused" 2 ["_law_found","_law_due"] (sp_refused K)) (C_layings:Callee P w K mg base "_law_layings" 3 ["_law_found"] sp_layings):Callee P w K mg base "_law_right" 7 ["_law_book_here","_law_what","_law_word_here","_law_length","_law_every"] (sp_right38 C):=by
 refine D.callee ze7 (fun _ _ _ _ _ _=>ln5 fun _ _ _ _ _=>rfl) (fun vs H Q E h => ?_) (fun f cdv A outer s H vs Q E hr h => ?_)
 ·obtain ⟨b,l,ev,G,cs,past,w,x,n,ws,ls,rfl,_⟩:=h
  rfl
 ·obtain ⟨b,l,ev,G,cs,past,w,x,n,ws,ls,rfl,B,hn,hw,hx,hev,er,hlen,hhd,hok,q⟩:=h
  have S:=ze7
  have hwl:((ws.length:Nat):Int)=((manyW cs w x n:Nat):Int):=by rw [<- hlen,<- Paired.length er]
  refine ⟨_,zad (zaG (zbp (zbv (zaD C_told (hr.mono (by decide)) rfl (zaa (zaD C_ask (hr.mono (by decide)) rfl (zaa (pv 1) (zaa (pv 0) (zaa (pv 2) (zaa (pv 3) zab))))) (zaa (zah zau rfl T.n_len PySem.boot_len (zaa (pv 4) zab)) zab)))))
   (zaf (zaj (zbI)))
   (zan))
  (zad (zam (i:=5) S.nd rfl (Or.inl rfl) (zaD C_ask (hr.mono (by decide)) rfl (zaa (zav zbr (pv 1) (zac)) (zaa (pv 0) (zaa (pv 2) (zaa (pv 3) zab))))))
  (zad (zaG (zao (zfl hr.units) (pv 4) (zaN (zab)) (zat _))
   (zaf (zaj (zaD C_refused (hr.mono (by decide)) rfl (zaa (pv 5) (zaa (zap) zab)))))
   (zan))
  (zaf (zaj (zd1 (zcJ zbT (zaz za6 (pv 5) (zac) (fun _ _=>rfl)) (zap) (zat _)) (zd1 (zaD C_layings (hr.mono (by decide)) rfl (zaa (zaz za6 (pv 5) (zac) (fun _ _=>rfl)) zab)) (zfh (zcJ (zfl hr.units) (zaz za6 (pv 5) (zac) (fun _ _=>rfl)) (zaz zaC (pv 4) (zac) (fun _ _=>rfl)) (zat _))))))))),?_⟩
  refine ⟨_,rfl,_,rfl,_,rfl,_,rfl,w,_,_,_,rfl,ask_many hw hx hn B fun fd H1 s1 hfd => ?_⟩
  rw [<- hwl] at hfd
  refine ⟨_,rfl,_,_,rfl,.inl (SqL.of (s1 _ _ hev)),fd,_,rfl,hfd,_,rfl,?_⟩
  refine iteF ?_
  refine ⟨_,rfl,_,_,rfl,rfl,_,rfl,_,rfl,_,rfl,w + 1,_,_,_,rfl,ask_first E14 hw hx hn (B.same s1) (fun hm fd r wl H2 s2 hfd hr lr => ?_) fun hm fd H2 s2 an => ?_⟩
  ·have s12:=s1.trans s2
   refine ⟨_,rfl,bigr rfl,fun le nle => ?_⟩
   have s3:Same H2 (upd H2 le (.lst [])):=Same.new nle
   have hle:upd H2 le (.lst []) le=some (.lst []):=upd_same
   generalize upd H2 le (.lst [])=H3 at s3 hle ⊢
   have s13:=s12.trans s3
   have lne:ls ≠ []:=fun z=>by rw [z] at hlen; simp at hlen; omega
   refine ⟨.list (ls.map lyD),.list [],.lst (SqL.of (s13 _ _ hev)) (zg3 (er.same s13)),.lst (SqL.of hle) .nil,zem hok,by decide,_,rfl,?_⟩
   rw [if_neg Bool.false_ne_true,zgD,decide_eq_false lne]
   refine iteF ?_
   refine ⟨_,rfl,_,_,_,_,rfl,rfl,SqT.of (s3 _ _ hfd),at0,rfl,_,rfl,?_⟩
   refine iteT ?_
   refine ⟨_,rfl,_,_,_,_,rfl,rfl,SqT.of (s3 _ _ hfd),at1,r,wl,rfl,s3 _ _ hr,lays_each2 (lr.mono fun _ _ e=>s3 _ _ e),_,rfl,?_⟩
   refine iteT ?_
   have hh:=hhd hm
   cases ls with
   | nil=>exact absurd rfl lne
   | cons y ls =>
    have hy:y=laysOf (nmW cs w x n) n:=Option.some.inj hh
    have er3:EvR H3 ws (y :: ls):=er.same s13
    obtain ⟨v0,ev0,l0,wl0,rfl,hl0,ly0⟩:=Paired.at (i:=0) er3 rfl
    refine ⟨_,rfl,_,_,_,_,rfl,rfl,SqT.of (s3 _ _ hfd),at1,_,rfl,_,_,_,_,rfl,rfl,SqL.of (s13 _ _ hev),show atI ws ((0:Nat):Int)=_ from zas ev0,lyD y,lyD y,.lst (SqL.of (s3 _ _ hr)) ?_,.lst (SqL.of hl0) (zgT ly0),zd7 (hok y List.mem_cons_self),zd7 (hok y List.mem_cons_self),?_⟩
    ·rw [hy]
     exact zgT (lays_ly (lr.mono fun _ _ e=>s3 _ _ e))
    ·rw [if_neg Bool.false_ne_true,show PyData.eqv (lyD y) (lyD y)=true from zgy y]
     exact q H3 s13
  ·have s12:=s1.trans s2
   refine ⟨_,rfl,bigr rfl,fun le nle => ?_⟩
   have s3:Same H2 (upd H2 le (.lst [])):=Same.new nle
   have hle:upd H2 le (.lst []) le=some (.lst []):=upd_same
   generalize upd H2 le (.lst [])=H3 at s3 hle ⊢
   have s13:=s12.trans s3
   have lne:ls = []:=List.length_eq_zero_iff.mp (by omega)
   subst lne
   refine ⟨.list (([]:List (List (Nat×Str))).map lyD),.list [],.lst (SqL.of (s13 _ _ hev)) (zg3 (er.same s13)),.lst (SqL.of hle) .nil,zem hok,by decide,_,rfl,?_⟩
   rw [if_neg Bool.false_ne_true,zgD,decide_eq_true rfl]
   obtain ⟨le',hfd,hle'⟩:=an.same s3
   exact iteT ⟨_,rfl,fd,le',errName 14,rfl,(errs_ok 14 (by decide)).1,hfd,hle',fun H4 s4=>q H4 (s13.trans s4)⟩
theorem name_ok {x:Str} (h:isName x=true):PyData.strOk x=true:=by
 unfold isName at h
 rw [Bool.and_eq_true] at h
 unfold PyData.strOk
 rw [Array.all_eq_true_iff_forall_mem]
 intro c hc
 have:=List.all_eq_true.mp h.2 c (by simpa using hc)
 unfold small at this
 simp at this ⊢
 omega
theorem srt_of {ks kz:Combs} (nd:(ks.map (·.1)).Nodup) (pp:kz.Perm ks) (so:sortedS (kz.map (·.1))=true):srt ks=kz:=by
 have e:nmSort ks=kz.map (·.1):=zdV ((zeC ks).trans (pp.map (·.1)).symm) (zd6 ks) so
 unfold srt
 rw [e,zgh nd pp]
theorem cnt_at (C:Combs) {k n:Nat} (h:k<=n):atI (cntL C n) ((k:Nat):Int)=some (.int ((cnt C k 0:Nat):Int)):=by
 refine zas ?_
 unfold cntL
 rw [List.getElem?_map,List.getElem?_range (by omega)]
 rfl
theorem cut_to38 (ws:List V) (n:Nat):cutV ws none (some (n:Int))=ws.take n:=by
 unfold cutV
 rw [HT.sIx_nat,HT.sIx_none]
 simp only [List.drop_zero,Nat.sub_zero]
 rcases Nat.le_total n ws.length with h | h
 ·rw [Nat.min_eq_left h]
 ·rw [Nat.min_eq_right h,List.take_length,List.take_of_length_le h]
theorem zgq:FnScope ["_law_script","_law_kinds","_law_graph_here","_law_length","_law_ways","_law_every","_law_layings_here","_law_book_here","_law_word_here","_law_teeth_here","_law_some"] ["_law_script"] (defScope s_law):=⟨rfl,rfl,rfl,by decide +kernel,rfl,by decide +kernel,by decide +kernel⟩
theorem ok_law {C:Addr} (D:DefAt K mg "law" s_law) (T:Bn mg) (C_at:Callee P w K mg base "_law_at" 1 ["_law_script","_law_k"] (sp_at K)) (C_combs:Callee P w K mg base "_law_combs" 2 ["_law_script"] (sp_combs K)) (C_graph:Callee P w K mg base "_law_graph" 3 ["_law_kinds","_law_begin"] sp_graph) (C_manyways:Callee P w K mg base "_law_manyways" 1 ["_law_graph_here","_law_length"] sp_manyways) (C_written:Callee P w K mg base "_law_written" 2 ["_law_graph_here","_law_length"] sp_written) (C_covers:Callee P w K mg base "_law_covers" 2 ["_law_kinds","_law_layings_here","_law_length"] sp_covers) (C_book:Callee P w K mg base "_law_book" 4 ["_law_kinds"] (sp_mkbook C)) (C_right:Callee P w K mg base "_law_right" 7 ["_law_book_here","_law_what","_law_word_here","_law_length","_law_every"] (sp_right38 C)):Callee P w K mg base "law" 8 ["_law_script"] (spLaw K):=by
 refine D.callee zgq (fun _ _ _ _ _ _=>ln1 fun _=>rfl) (fun vs H Q E h => ?_) (fun f cdv A outer s H vs Q E hr h => ?_)
 ·obtain ⟨a,ns,rfl,_⟩:=h
  rfl
 ·obtain ⟨a,ns,rfl,hS,hl,q⟩:=h
  have S:=zgq
  have hu:=zcx hr
  refine ⟨_,zad (zam (i:=1) S.nd rfl (Or.inl rfl) (zaD C_combs (hr.mono (by decide)) rfl (zaa (pv 0) zab)))
  (zad (zam (i:=2) S.nd rfl (Or.inl rfl) (zaD C_graph (hr.mono (by decide)) rfl (zaa (zah (call_sortedK hr.units) rfl T.n_sorted boot_sorted (zaa (pv 1) zab)) (zaa (zaY (zab)) zab))))
  (zad (zam (i:=3) S.nd rfl (Or.inl rfl) (zav zbq (zav zbN (zaD C_at (hr.mono (by decide)) rfl (zaa (pv 0) (zaa (zac) zab))) (zac)) (zaz zaC (zaN (zaa (zac) (zaa (zac) zab))) (zav zbq (zaD C_at (hr.mono (by decide)) rfl (zaa (pv 0) (zaa (zac) zab))) (zac)) (fun _ _=>rfl))))
  (zad (zam (i:=4) S.nd rfl (Or.inl rfl) (zaD C_manyways (hr.mono (by decide)) rfl (zaa (pv 2) (zaa (pv 3) zab))))
  (zad (zfe PassesOwn.never (zao zgm (zaz zaC (pv 4) (pv 3) (fun _ _=>rfl)) (zac) (zat _))
   (zaf (zam (i:=3) S.nd rfl (Or.inl rfl) (zav zdi (pv 3) (zac)))))
  (zad (zam (i:=5) S.nd rfl (Or.inl rfl) (zaD C_written (hr.mono (by decide)) rfl (zaa (pv 2) (zaa (pv 3) zab))))
  (zad (zaT PassesOwn.never rfl (zar (zfg zfA (pv 5) (zfR) (zfQ (zac)))) (zai (i:=6) S.nd rfl (Or.inl rfl))
   (zaf (zaG (zbp (zbv (zaD C_covers (hr.mono (by decide)) rfl (zaa (pv 1) (zaa (pv 6) (zaa (pv 3) zab))))))
    (zaf (zaj (zbI)))
    (zan))))
  (zad (zam (i:=7) S.nd rfl (Or.inl rfl) (zaD C_book (hr.mono (by decide)) rfl (zaa (pv 1) zab)))
  (zad (zaG (zbp (zbv (zaD C_right (hr.mono (by decide)) rfl (zaa (pv 7) (zaa (zac) (zaa (zap) (zaa (pv 3) (zaa (pv 5) zab))))))))
   (zaf (zaj (zbI)))
   (zan))
  (zad (zaT PassesOwn.never rfl (zar (pv 1)) (zff rfl (zax (zai (i:=8) S.nd rfl (Or.inr rfl)) (zax (zai (i:=9) S.nd rfl (Or.inl rfl)) (zbs))))
   (zad (ps_setC (i:=10) S.nd rfl (Or.inl rfl) (own := ["_law_row"]) (caps := [(8,"_law_word_here")]) rfl ⟨rfl,rfl,rfl,rfl,⟨⟨rfl,rfl,.inl rfl⟩,trivial⟩⟩ (zar (pv 5)) (fun _ _ _ _ _ _=>zai (i:=0) (zaM (by decide +kernel)) rfl (Or.inl rfl)) (fun _ _ _ _ _ _=>zci (zao (op_in_seq' K rfl) (pv 1) (zaU (own := ["_law_one"]) (caps := []) rfl ⟨rfl,rfl,rfl,rfl,trivial⟩ (pi_list' K rfl (pv 0)) (fun _ _ _ _ _ _=>zai (i:=0) (zaM (by decide +kernel)) rfl (Or.inl rfl)) (fun _ _ _ _ _ _=>za8) (fun _ _ _ _ _ _=>zaz (zeD K rfl) (pv 0) (zac) (fun _ _=>rfl))) (by with_unfolding_all rfl))) (fun _ _ _ _ _ _=>pv 0))
   (zaf (zaG (zbp (zbv (zaD C_right (hr.mono (by decide)) rfl (zaa (pv 7) (zaa (zac) (zaa (pv 8) (zaa (pv 3) (zaa (pv 10) zab))))))))
    (zaf (zaj (zbI)))
    (zan)))))
  (zaf (zaj (zbI)))))))))))),?_⟩
  refine ⟨_,rfl,a,ns,rfl,hS,fun pk ks ws H1 s1 npk hpk dr hk8 => ?_⟩
  have gc:GC ks:=fun c hc=>(dr.good c hc).2
  have pm:=ze1 dr.nd
  have gcs:GC (srt ks):=fun c hc=>gc c (pm.mem_iff.mp hc)
  have hs8:(srt ks).length<=8:=by rw [pm.length_eq]; exact hk8
  have nds:((srt ks).map (·.1)).Nodup:=(pm.map _).nodup_iff.mpr dr.nd
  have nek:∀ c∈ks,c.1≠Str.ofString "" := fun c hc z=>by
   have:=(dr.good c hc).1
   rw [z] at this
   exact absurd this (by decide +kernel)
  have nes:∀ c∈srt ks,c.1≠Str.ofString "" := fun c hc=>nek c (pm.mem_iff.mp hc)
  refine ⟨_,rfl,pk,ws,ks,_,rfl,hpk,dr.rows,dr.nd,by omega,fun pz wz kz npz kk pp so => ?_⟩
  have ekz:=srt_of dr.nd pp so
  subst ekz
  have s5:Same H1 (upd H1 pz (.lst wz)):=Same.new npz
  have hpz:upd H1 pz (.lst wz) pz=some (.lst wz):=upd_same
  generalize upd H1 pz (.lst wz)=H5 at s5 hpz ⊢
  refine ⟨bigr rfl,fun te nte => ?_⟩
  have s6:Same H5 (upd H5 te (.tup [])):=Same.new nte
  refine ⟨pz,te,wz,srt ks,0,rfl,s6 _ _ hpz,kk.same (s5.trans s6),hs8,gcs,by decide,?_,fun g kvs L H7 s7 ng hg gr ndL cl h0L => ?_⟩
  ·rw [upd_same,show aheadOf ((0:Nat):Int) = [] by decide]; rfl
  have s17:=(s5.trans s6).trans s7
  have s07:=s1.trans s17
  have p2:(0:Int) < 2:=by decide
  refine ⟨_,rfl,a,ns,9,rfl,s07.seq hS,by decide,_,_,rfl,rfl,⟨by decide,by decide⟩,bigr rfl,fun pl npl => ?_⟩
  have s8:Same H7 (upd H7 pl (.lst [.int 91,.int 31])):=Same.new npl
  have hpl:upd H7 pl (.lst [.int 91,.int 31]) pl=some (.lst [.int 91,.int 31]):=upd_same
  generalize upd H7 pl (.lst [.int 91,.int 31])=H8 at s8 hpl ⊢
  obtain ⟨md,hat,hmd,hmd2⟩:∃ md:Int,atI [V.int 91,V.int 31] (ns.getD (9:Int).toNat 0 % 2)=some (.int md)/\0 < md/\md<=91:=by
   have h1:=Int.emod_nonneg (ns.getD (9:Int).toNat 0) (show (2:Int)≠0 by decide)
   have h2:=Int.emod_lt_of_pos (ns.getD (9:Int).toNat 0) p2
   rcases (show ns.getD (9:Int).toNat 0 % 2=0\/ns.getD (9:Int).toNat 0 % 2=1 by omega) with z | z
   ·exact ⟨91,by rw [z]; rfl,by decide,by decide⟩
   ·exact ⟨31,by rw [z]; rfl,by decide,by decide⟩
  refine ⟨_,rfl,a,ns,9,rfl,(s07.trans s8).seq hS,by decide,_,_,rfl,rfl,p2,_,_,_,_,rfl,rfl,SqL.of hpl,hat,_,_,rfl,rfl,hmd,?_⟩
  obtain ⟨lo,elo,hlo⟩:∃ lo:Nat,ns.getD (9:Int).toNat 0 / 2 % md=(lo:Nat)/\lo<=90:=by
   have h1:=Int.emod_nonneg (ns.getD (9:Int).toNat 0 / 2) (show md≠0 by omega)
   have h2:=Int.emod_lt_of_pos (ns.getD (9:Int).toNat 0 / 2) hmd
   exact ⟨(ns.getD (9:Int).toNat 0 / 2 % md).toNat,by omega,by omega⟩
  show gName 3 (V.int (ns.getD (9:Int).toNat 0 / 2 % md)) _ _ _
  rw [elo]
  refine ⟨_,rfl,_,rfl,g,kvs,srt ks,L,lo,rfl,s8 _ _ hg,gr.same s8,ndL,cl,h0L,gcs,hs8,nds,nes,by omega,fun pw H9 s9 npw hpw => ?_⟩
  have s79:=s8.trans s9
  refine ⟨fun m σ Hx=>Same H9 Hx/\∃ k:Nat,m=k/\k<=lo /\ σ = [some (.ref a),some (.ref pk),some (.ref g),some (.int (k:Nat)),some (.ref pw),none,none,none,none,none,none],⟨lo,Same.refl _,lo,rfl,Nat.le_refl _,rfl⟩,?_⟩
  rintro m σ Hx ⟨sx,k,rfl,hk,rfl⟩
  refine ⟨_,rfl,_,rfl,_,_,_,_,rfl,rfl,SqL.of (sx _ _ hpw),cnt_at _ hk,_,_,rfl,rfl,_,rfl,?_⟩
  refine ite2 (fun hz => ?_) (fun hz => ?_)
  ·have hz:150 < cnt (srt ks) m 0:=by have:=of_decide_eq_true hz; omega
   have hm0:m≠0:=fun z=>by rw [z,zce,if_pos rfl] at hz; omega
   refine ⟨fun σ' H'=>∃ m',m' < m/\Same H9 H'/\∃ k:Nat,m'=k/\k<=lo /\ σ' = [some (.ref a),some (.ref pk),some (.ref g),some (.int (k:Nat)),some (.ref pw),none,none,none,none,none,none],fun _ _ h=>h,?_⟩
   have e:((m:Nat):Int) - 1=((m - 1:Nat):Int):=by omega
   refine ⟨_,rfl,_,_,rfl,rfl,m - 1,by omega,sx,m - 1,rfl,by omega,?_⟩
   rw [<- e]
   rfl
  have h150:Wy (srt ks) m 0<=150:=by
   rw [Wy_cnt gcs nds nes]
   have:¬ (150:Int) < ((cnt (srt ks) m 0:Nat):Int):=fun z=>hz (decide_eq_true z)
   omega
  have s7x:=s79.trans sx
  refine ⟨_,rfl,_,rfl,g,kvs,srt ks,L,m,rfl,s7x _ _ hg,gr.same s7x,ndL,cl,h0L,gcs,hs8,by omega,h150,fun ev we H10 s10 hev er => ?_⟩
  have s710:=s7x.trans s10
  have s110:=s17.trans s710
  have hwe:we.length=(WR (srt ks) m m).length:=by rw [<- Paired.length er,List.length_map]
  have hlen:=WR_all (srt ks) m
  have fact:∀ x∈(WR (srt ks) m m).map (·.2),x∈chs (srt ks) m/\Cover (srt ks) x m/\x.Pairwise fun y z=>y.1 < z.1:=fun x hx=>by
   obtain ⟨w',hw',rfl⟩:=List.mem_map.mp hx
   exact WR_cover gcs nds nes hw'
  have hok:∀ x∈(WR (srt ks) m m).map (·.2),∀ z∈x,PyData.strOk z.2=true:=fun x hx z hz=>by
   obtain ⟨c,hc,e⟩:=List.mem_map.mp ((zcW (fact x hx).1 z hz).2)
   rw [<- e]
   exact name_ok (dr.good c (pm.mem_iff.mp hc)).1
  refine ⟨_,rfl,_,rfl,_,_,rfl,SqL.of hev,fun pt npt => ?_⟩
  rw [show cutV we none (some (20:Int))=we.take 20 from cut_to38 we 20]
  have s11:Same H10 (upd H10 pt (.lst (we.take 20))):=Same.new npt
  have hpt:upd H10 pt (.lst (we.take 20)) pt=some (.lst (we.take 20)):=upd_same
  generalize upd H10 pt (.lst (we.take 20))=H11 at s11 hpt ⊢
  have s111:=s110.trans s11
  refine ⟨_,rfl,⟨_,SqL.of hpt⟩,?_⟩
  refine zbl (zak K pt (we.take 20)) (fun _ σ Hx=>Same H11 Hx/\∃ x6,σ = [some (.ref a),some (.ref pk),some (.ref g),some (.int (m:Nat)),some (.ref pw),some (.ref ev),x6,none,none,none,none]) ⟨Same.refl _,_,rfl⟩ (fun _ σ Hx _ h=>SqL.of (h.1 _ _ hpt)) ?_ ?_
  ·rintro j y σ Hx hy ⟨sx',x6,rfl⟩
   have hy':we[j]?=some y:=by
    rw [List.getElem?_take] at hy
    split at hy
    ·exact hy
    ·cases hy
   have s10x:=s11.trans sx'
   obtain ⟨x,ex,l1,wl1,rfl,hl1,ly1⟩:=Paired.rev (er.same s10x) hy'
   obtain ⟨f1,f2,f3⟩:=fact x (List.mem_of_getElem? ex)
   refine ⟨_,rfl,_,rfl,_,rfl,pk,l1,m,ws,wl1,ks,x,rfl,(s110.trans s10x) _ _ hpk,dr.same (s110.trans s10x),hl1,ly1,by omega,lay_perm pm (fun z hz=>(zcW f1 z hz).2),cover_perm pm nds f2,f3,fun H12 s12=>⟨_,rfl,?_⟩⟩
   exact iteF ⟨sx'.trans s12,_,rfl⟩
  rintro σ Hx ⟨sx',x6,rfl⟩
  have s1x:=s111.trans sx'
  refine ⟨_,rfl,pk,ws,ks,rfl,s1x _ _ hpk,dr.same s1x,hk8,fun b l G past H13 s13 nb nl nG B hpast => ?_⟩
  have s1013:=(s11.trans sx').trans s13
  have hev13:=s1013 _ _ hev
  have er13:=er.same s1013
  have s113:=s110.trans s1013
  refine ⟨_,rfl,_,rfl,_,rfl,b,l,ev,G,ks,past,0,Str.ofString "",m,we,_,rfl,B,by omega,.inl rfl,(fun z=>by cases z),hev13,er13,?_,fun hm => ?_,hok,fun H14 s14=>⟨_,rfl,?_⟩⟩
  ·show _=Wy (srt ks) m 0
   rw [List.length_map,hlen]
  ·obtain ⟨s0,e⟩:=WR_head_all gcs hm
   show ((WR (srt ks) m m).map (·.2)).head?=some (laysOf (fnm (srt ks) (Str.ofString "") (Wy (srt ks)) m) m)
   rw [List.head?_map,e]
   rfl
  refine iteF ?_
  have s114:=s113.trans s14
  have s1014:=s1013.trans s14
  have B14:=B.same s14
  refine ⟨_,rfl,_,rfl,⟨_,SqL.of (s114 _ _ hpk)⟩,?_⟩
  refine zbl (zak K pk ws) (fun _ σ Hx=>Same H14 Hx/\∃ x8 x9 x10,σ = [some (.ref a),some (.ref pk),some (.ref g),some (.int (m:Nat)),some (.ref pw),some (.ref ev),x6,some (.ref b),x8,x9,x10]) ⟨Same.refl _,_,_,_,rfl⟩ (fun _ σ Hx _ h=>SqL.of (h.1 _ _ (s114 _ _ hpk))) ?_ ?_
  ·rintro j y σ Hy hy ⟨sy,x8,x9,x10,rfl⟩
   obtain ⟨kk',qa,t,hk',rfl,hq,ht⟩:=((dr.same s114).same sy).rows.get hy
   have hkm:=List.mem_of_getElem? hk'
   have hkne:=nek _ hkm
   refine ⟨qa,_,rfl,SqL.of hq,rfl,_,_,rfl,_,_,rfl,rfl,?_⟩
   have s10y:=s1014.trans sy
   have er1:=er.same s10y
   refine ⟨_,rfl,_,rfl,⟨_,SqL.of (s10y _ _ hev)⟩,fun D hD => ?_⟩
   have hvD:∀ i,i < we.length->we.getD i .non ≠ .ref D:=fun i hi z=>by
    obtain ⟨x,ex,l1,wl1,e,hl1,ly1⟩:=Paired.rev er1 (List.getElem?_eq_getElem hi)
    rw [List.getD_eq_getElem?_getD,List.getElem?_eq_getElem hi,Option.getD_some,e] at z
    injection z with z
    rw [z,hD] at hl1
    cases hl1
   refine zdl (capv := [some (.str kk'.1)]) (by rfl) (zak K ev we) (big (by omega)) hD (fun H' s'=>SqL.of (s' _ _ (s10y _ _ hev))) (fun i=>has kk'.1 (((WR (srt ks) m m).map (·.2)).getD i [])) (fun i=>we.getD i .non) (fun i hi _=>hvD i hi) ?_ ?_ ?_
   ·intro i x hx H' R s' h
    obtain ⟨lx,ex,l1,wl1,rfl,hl1,ly1⟩:=Paired.rev (er1.same s') hx
    have hwl1:wl1.length<=m:=by
     rw [<- Paired.length ly1]
     obtain ⟨w',hw',rfl⟩:=List.mem_map.mp (List.mem_of_getElem? ex)
     exact zgk gcs hw'
    refine ⟨_,rfl,_,rfl,_,rfl,⟨_,SqL.of hl1⟩,fun D2 hD2 => ?_⟩
    refine zdl (capv := []) (by rfl) (zak K l1 wl1) (big (by omega)) hD2 (fun H' s'=>SqL.of (s' _ _ hl1)) (fun _=>true) (fun u=>V.str (lx.getD u (0,Str.ofString "")).2) (fun _ _ _=>nofun) (fun u z hz H'' R' s'' h'=>h' H'' (Same.refl _)) ?_ ?_
    ·intro u z hz _ H'' R' s'' h'
     obtain ⟨y1,ey,qy,rfl,e2⟩:=Paired.rev ly1 hz
     refine ⟨_,rfl,_,_,_,_,rfl,rfl,SqT.of (s'' _ _ e2),at1,?_⟩
     have:=h' H'' (Same.refl _)
     rw [List.getD_eq_getElem?_getD,ey] at this
     exact this
    intro H'' s'' e''
    have e3:H'' D2=some (.lst ((lx.map (·.2)).map V.str)):=by
     rw [e'',List.filter_eq_self.mpr fun _ _=>rfl,<- Paired.length ly1,zch lx (0,Str.ofString "") fun y=>V.str y.2,List.map_map]
     rfl
    refine ⟨_,_,rfl,.inl (SqL.of e3),rfl,by simp [flatV],_,rfl,?_⟩
    rw [if_neg Bool.false_ne_true,zeE]
    have:=h H'' s''
    rw [List.getD_eq_getElem?_getD,ex] at this
    exact this
   ·intro i x hx _ H' R s' h
    refine ⟨_,rfl,?_⟩
    have:=h H' (Same.refl _)
    rw [List.getD_eq_getElem?_getD,hx] at this
    exact this
   intro H15 s15 e15
   have er15:EvR H15 _ (((WR (srt ks) m m).map (·.2)).filter (has kk'.1)):=paired_filter [] (er1.same s15) (has kk'.1)
   have hev2:=e15
   generalize (((List.range we.length).filter fun i=>has kk'.1 (((WR (srt ks) m m).map (·.2)).getD i [])).map fun i=>we.getD i .non)=wf at er15 hev2
   have hget:(cGet ks kk'.1).isSome=true:=by rw [zcm dr.nd hkm]; rfl
   have efl:((WR (srt ks) m m).map (·.2)).filter (has kk'.1)=((WR (srt ks) m m).filter fun a=>has kk'.1 a.2).map (·.2):=by
    rw [List.filter_map]; rfl
   refine ⟨_,rfl,_,rfl,_,rfl,_,rfl,b,l,D,G,ks,past,2,kk'.1,m,wf,_,rfl,(B14.same sy).same s15,by omega,.inr rfl,(fun _=>hget),hev2,er15,?_,fun hm => ?_,fun x hx=>hok x (List.mem_filter.mp hx).1,fun H16 s16=>⟨_,rfl,?_⟩⟩
   ·show _=Ww (srt ks) kk'.1 m 0
    rw [efl,List.length_map,WR_with _ hkne]
   ·obtain ⟨s0,e⟩:=WR_head_with gcs hkne hm
    show (((WR (srt ks) m m).map (·.2)).filter (has kk'.1)).head?=some (laysOf (fnm (srt ks) kk'.1 (Ww (srt ks) kk'.1) m) m)
    rw [efl,List.head?_map,e]
    rfl
   exact iteF ⟨(sy.trans s15).trans s16,_,_,_,rfl⟩
  ·rintro σ Hy ⟨sy,x8,x9,x10,rfl⟩
   exact q _
end
theorem walk {l:PySem.W.OpenLaw} {q:Program} {loose:List Str} {XP:(Str->Option Value)->Heap->Prop} {YP:World->Heap->Prop} {d:DefRec} {K:Params->W.Frag} (hn:l.most=some 63) (hdf:d.params.defaults = [])
  (hY:∀ (w:World) (h:Heap),YP w h->(K w.params).In h)
  (F:∀ (w:World) (mg:Str->Option Value) (fa:Addr) (h:Heap),(K w.params).In h->h.Ns mainGlobals mg->mg d.name=some (.ref fa) ->
   ∃ fd:FuncData,(∀ (s:Shared) (u:Value),BindsTo s fd ⟨[u],[]⟩ [("_law_script",u)])/\∀ base:Heap,(K w.params).In base->base.Ns mainGlobals mg->FnOk l.prog w (K w.params) mg base CX0 8 fa fd ["_law_script"] (spLaw (K w.params))) :
  PySem.W.WalkO q loose XP YP l.row.toRowW d [] (fun f vs=>PySem.call f vs) :=
 L2.walk_of (n:=63) (k:=8) (x := "_law_script") (CX:=fun _=>CX0) (sp:=fun w=>spLaw (K w.params)) hn (by decide) hdf ⟨rfl,by decide,by decide⟩ hY F (fun _ _ a ns hl _ hS=>⟨a,ns,rfl,hS,hl,fun _=>rfl⟩) fun _ _ _ _ _ z=>z
theorem all {l:PySem.W.OpenLaw} {w:World} {K:W.Frag} {h:Heap} {mg:Str->Option Value} {fa:Addr} (X:K.In h) (G:h.Ns mainGlobals mg) (hfa:mg "law" = some (.ref fa)) (T:Bn mg)
  (V_MOST_COMBS:∃ t,mg "MOST_COMBS" = some (.int 8 t))
  (V_MOST_NAME:∃ t,mg "MOST_NAME" = some (.int 6 t))
  (V_MOST_TOOTH:∃ t,mg "MOST_TOOTH" = some (.int 7 t))
  (V_MOST_DEEDS:∃ t,mg "MOST_DEEDS" = some (.int 300 t))
  (V_SHAPES:∃ t,mg "SHAPES" = some (.int 128 t))
  (V_MOST_FILLED:∃ t,mg "MOST_FILLED" = some (.int 200 t))
  {t_TOOTH_WORTH:Addr} (G_TOOTH_WORTH:mg "TOOTH_WORTH" = some (.ref t_TOOTH_WORTH)) (TC_TOOTH_WORTH:tupChk K t_TOOTH_WORTH [1,2,4,8,16,32,64,128]=true)
  {C ce a0 a1 a2 a3 a4 a5 a6 a7 a8 a9 a10 a11 a12 a13 a14:Addr}
  (R0:mg "BadName" = some (.ref a0))
  (R1:mg "BadTeeth" = some (.ref a1))
  (R2:mg "NameTaken" = some (.ref a2))
  (R3:mg "BookFull" = some (.ref a3))
  (R4:mg "NoComb" = some (.ref a4))
  (R5:mg "BadTooth" = some (.ref a5))
  (R6:mg "ToothThere" = some (.ref a6))
  (R7:mg "FirstTooth" = some (.ref a7))
  (R8:mg "ToothMissing" = some (.ref a8))
  (R9:mg "DeedsFull" = some (.ref a9))
  (R10:mg "NothingDone" = some (.ref a10))
  (R11:mg "BadShape" = some (.ref a11))
  (R12:mg "BadPlace" = some (.ref a12))
  (R13:mg "BadLength" = some (.ref a13))
  (R14:mg "NoFilling" = some (.ref a14))
  (RCE:mg "CombError" = some (.ref ce)) (HCHK:errChk K [a0,a1,a2,a3,a4,a5,a6,a7,a8,a9,a10,a11,a12,a13,a14] ce [0,1,2,3,4,9,11,13,14]=true)
  (INIT:InitAt K mg C "Book" "Book.__init__" s_Book___init__) (BCHK:bookChk K C=true)
  (N_put:MethAt K C "Book" "put" s_Book_put)
  (N_names:MethAt K C "Book" "names" s_Book_names)
  (N_teeth:MethAt K C "Book" "teeth" s_Book_teeth)
  (N_check_comb:MethAt K C "Book" "check_comb" s_Book_check_comb)
  (N_set_comb:MethAt K C "Book" "set_comb" s_Book_set_comb)
  (N_do_deed:MethAt K C "Book" "do_deed" s_Book_do_deed)
  (D_shape_steps:DefAt K mg "shape_steps" s_shape_steps)
  (D_teeth_worth:DefAt K mg "teeth_worth" s_teeth_worth)
  (D_step_table:DefAt K mg "step_table" s_step_table)
  (D_first_filling:DefAt K mg "first_filling" s_first_filling)
  (D_count_fillings:DefAt K mg "count_fillings" s_count_fillings)
  (D_first_filling_with:DefAt K mg "first_filling_with" s_first_filling_with)
  (D_count_fillings_with:DefAt K mg "count_fillings_with" s_count_fillings_with)
  (D_check_length:DefAt K mg "check_length" s_check_length)
  (D_ways_to_close:DefAt K mg "ways_to_close" s_ways_to_close)
  (D_ways_to_lay:DefAt K mg "ways_to_lay" s_ways_to_lay)
  (D_ways_from:DefAt K mg "ways_from" s_ways_from)
  (D_ways_behind:DefAt K mg "ways_behind" s_ways_behind)
  (D_lay_first:DefAt K mg "lay_first" s_lay_first)
  (D_first_open_step:DefAt K mg "first_open_step" s_first_open_step)
  (D_is_name:DefAt K mg "is_name" s_is_name)
  (D_is_small_letter:DefAt K mg "is_small_letter" s_is_small_letter)
  (D_are_teeth:DefAt K mg "are_teeth" s_are_teeth)
  (D_at:DefAt K mg "_law_at" s_at)
  (D_mixed:DefAt K mg "_law_mixed" s_mixed)
  (D_word:DefAt K mg "_law_word" s_word)
  (D_spare:DefAt K mg "_law_spare" s_spare)
  (D_menu:DefAt K mg "_law_menu" s_menu)
  (D_combs:DefAt K mg "_law_combs" s_combs)
  (D_book:DefAt K mg "_law_book" s_book)
  (D_after:DefAt K mg "_law_after" s_after)
  (D_goes:DefAt K mg "_law_goes" s_goes)
  (D_graph:DefAt K mg "_law_graph" s_graph)
  (D_ends:DefAt K mg "_law_ends" s_ends)
  (D_manyways:DefAt K mg "_law_manyways" s_manyways)
  (D_whole:DefAt K mg "_law_whole" s_whole)
  (D_laying:DefAt K mg "_law_laying" s_laying)
  (D_layings:DefAt K mg "_law_layings" s_layings)
  (D_teeth:DefAt K mg "_law_teeth" s_teeth)
  (D_covers:DefAt K mg "_law_covers" s_covers)
  (D_kind:DefAt K mg "_law_kind" s_kind)
  (D_refused:DefAt K mg "_law_refused" s_refused)
  (D_told:DefAt K mg "_law_told" s_told)
  (D_ask:DefAt K mg "_law_ask" s_ask)
  (D_right:DefAt K mg "_law_right" s_right)
  (D_written:DefAt K mg "_law_written" s_written)
  (D_law:DefAt K mg "law" s_law) :
  ∃ fd:FuncData,(∀ (s:Shared) (v:Value),BindsTo s fd ⟨[v],[]⟩ [("_law_script",v)])/\∀ base:Heap,K.In base->base.Ns mainGlobals mg->FnOk l.prog w K mg base CX0 8 fa fd ["_law_script"] (spLaw K):=by
 have BA:=book_of BCHK
 have E (j:Nat) (hj:j ∈ [0,1,2,3,4,9,11,13,14]) (h15:j < 15):=ej_of HCHK hj h15
 have E4:=E 4 (by decide) (by decide)
 refine D_law.entry hfa (fun _ _ _ _ _ _ v=>rfl) fun base => ?_
 have c_kind:=ok_kind (P:=l.prog) (w:=w) (base:=base) D_kind T (ea:=fun i => [a0,a1,a2,a3,a4,a5,a6,a7,a8,a9,a10,a11,a12,a13,a14].getD i 0) ⟨R0,R1,R2,R3,R4,R5,R6,R7,R8,R9,R10,R11,R12,R13,R14⟩
 have m_check:=ok_check (P:=l.prog) (w:=w) (base:=base) (ea:=fun i => [a0,a1,a2,a3,a4,a5,a6,a7,a8,a9,a10,a11,a12,a13,a14].getD i 0) N_check_comb T BA (E4.err R4)
 have m_do:=ok_do (P:=l.prog) (w:=w) (base:=base) (ea:=fun i => [a0,a1,a2,a3,a4,a5,a6,a7,a8,a9,a10,a11,a12,a13,a14].getD i 0) N_do_deed T BA V_MOST_DEEDS ((E 9 (by decide) (by decide)).err R9)
 have m_set:=ok_set (ea:=fun i => [a0,a1,a2,a3,a4,a5,a6,a7,a8,a9,a10,a11,a12,a13,a14].getD i 0) N_set_comb T BA m_do
 have m_put:=ok_put (ea:=fun i => [a0,a1,a2,a3,a4,a5,a6,a7,a8,a9,a10,a11,a12,a13,a14].getD i 0) N_put T BA V_MOST_COMBS ((E 0 (by decide) (by decide)).err R0) ((E 1 (by decide) (by decide)).err R1) ((E 2 (by decide) (by decide)).err R2) ((E 3 (by decide) (by decide)).err R3) (ok_name D_is_name T V_MOST_NAME (ok_small D_is_small_letter T)) (ok_teeth D_are_teeth T V_MOST_TOOTH) m_set
 have m_names:=ok_names (P:=l.prog) (w:=w) (base:=base) N_names T BA
 have m_teeth:=ok_bteeth N_teeth T BA m_check
 have c_at:=ok_at (P:=l.prog) (w:=w) (base:=base) D_at T
 have c_word:=ok_word (P:=l.prog) (w:=w) (base:=base) D_word T
 have c_combs:=ok_combs D_combs T c_at (ok_mixed D_mixed T) c_word (ok_spare D_spare T) (ok_menu D_menu T)
 have c_book:L2.Callee l.prog w K mg base "_law_book" 4 ["_law_kinds"] (sp_mkbook C):=by
  obtain ⟨fi,fdi,mk,fu⟩:=INIT.ex
  exact ok_mkbook D_book T BA ⟨fi,fdi,mk,ok_init fu T BA,INIT.m,fu.binds (fun _ _ _ _ _ _=>ln1 fun _=>rfl)⟩ m_put
 have f_steps:=ok_steps (ea:=fun i => [a0,a1,a2,a3,a4,a5,a6,a7,a8,a9,a10,a11,a12,a13,a14].getD i 0) D_shape_steps T BA V_SHAPES ((E 11 (by decide) (by decide)).err R11) (ok_worth D_teeth_worth T G_TOOTH_WORTH (tup_chk TC_TOOTH_WORTH)) m_names m_teeth
 have f_table:=ok_table D_step_table T V_SHAPES f_steps
 have c_whole:=ok_whole (P:=l.prog) (w:=w) (base:=base) D_whole T
 have c_laying:=ok_laying (P:=l.prog) (w:=w) (base:=base) D_laying T c_whole
 have f_bw:=ok_behindw (P:=l.prog) (w:=w) (base:=base) D_ways_behind T
 have f_from:=ok_from D_ways_from T f_bw
 have c_close:=ok_close D_ways_to_close T f_from
 have f_chk:=ok_chk (P:=l.prog) (w:=w) (base:=base) (ea:=fun i => [a0,a1,a2,a3,a4,a5,a6,a7,a8,a9,a10,a11,a12,a13,a14].getD i 0) D_check_length T V_MOST_FILLED ((E 13 (by decide) (by decide)).err R13)
 have f_layw:=ok_layw D_ways_to_lay T f_from
 have f_layf:=ok_layf (ea:=fun i => [a0,a1,a2,a3,a4,a5,a6,a7,a8,a9,a10,a11,a12,a13,a14].getD i 0) D_lay_first T ((E 14 (by decide) (by decide)).err R14) (ok_open D_first_open_step T f_bw)
 have c_told:=ok_told D_told T c_whole
 have c_refused:=ok_refused (P:=l.prog) (w:=w) (base:=base) D_refused T
 have c_ask:=ok_ask D_ask T RCE c_kind (ok_count (ea:=fun i => [a0,a1,a2,a3,a4,a5,a6,a7,a8,a9,a10,a11,a12,a13,a14].getD i 0) D_count_fillings T f_chk f_table c_close) (ok_ffill (ea:=fun i => [a0,a1,a2,a3,a4,a5,a6,a7,a8,a9,a10,a11,a12,a13,a14].getD i 0) D_first_filling T f_chk f_table c_close f_layf) (ok_countw D_count_fillings_with T BA m_check f_chk f_table c_close f_layw) (ok_ffillw D_first_filling_with T BA m_check f_chk f_table c_close f_layw f_layf)
 exact ok_law D_law T c_at c_combs (ok_graph D_graph T (ok_goes D_goes T (ok_after D_after T))) (ok_manyways D_manyways T) (ok_written D_written T (ok_ends D_ends T)) (ok_covers (P:=l.prog) (w:=w) (base:=base) D_covers T (ok_lteeth D_teeth T)) c_book (ok_right D_right T (E 14 (by decide) (by decide)) c_ask c_told c_refused (ok_layings D_layings T c_laying))
end K38
open PySem PySem.W PyProof.Rows
namespace PySem.W.Fast
def tw13346869547056419275:=True
def tw12349058848499429160:=True
def tw4147029549495116851:=True
def tw16694296975716975657:=True
def tw15928086684483367330:=True
def tw2249812227865744116:=True
def tw971711727482409611:=True
def tw10259138942833126763:=True
def tw13159409627905599928:=True
def tw1407036377870532843:=True
def tw3004810208608895020:=True
def tw395201159324345439:=True
def tw17443669550686561129:=True
def tw6370814287743965271:=True
def tw6300951905754956852:=True
def tw14331289676408328609:=True
def tw16438630965102945977:=True
def tw4125631548667950377:=True
def tw12661007125496376707:=True
def tw4231925609356090423:=True
def tw18057805832610280261:=True
def tw10571012353367750883:=True
def tw12577400815211750463:=True
def tw12046596968430273145:=True
def tw13417831333176096244:=True
def tw13296907297153612907:=True
def tw13376439620065341825:=True
def tw1821444782569340042:=True
def tw7270340965788484075:=True
def tw11994902382467573826:=True
def tw5738488922446362033:=True
def tw14369874748458577303:=True
def tw10461149760458458521:=True
def tw3633786795940376382:=True
def tw5085508706583092236:=True
def tw7424599671340294836:=True
def tw6766334433556116746:=True
def tw3119600448875491074:=True
def tw8694853637764830553:=True
def tw13592983001203515325:=True
def tw851756362080658233:=True
def tw13305915623257522368:=True
def tw10209474911235670467:=True
def tw4418307994097054474:=True
def tw11331345024782293451:=True
def tw5870335057371728377:=True
def tw9083574780283597752:=True
def tw482745602641494494:=True
def tw3678685448958732447:=True
def tw7691300938821284432:=True
def tw2769739547400221479:=True
def tw15526340843898502107:=True
def tw8236928442466956698:=True
def tw10103427618987329410:=True
def tw11224721549575759562:=True
def tw10085040498306368394:=True
def tw10331422718964281733:=True
def tw12463924384093674877:=True
def tw7467266180932834636:=True
def tw18131836737716984599:=True
def tw18235185068775502681:=True
def tw953771578356084424:=True
def tw9967563438449913559:=True
def tw2649366652875760142:=True
def tw16081102117296576317:=True
def tw13750938781247863674:=True
def tw8227762100298894966:=True
def tw911895852736988783:=True
def tw1295904469288270468:=True
def tw13104270882138788781:=True
def tw5182877637412267998:=True
def tw1164274368932553553:=True
def tw10172274297304346867:=True
def tw17487080798683152011:=True
def tw4679779382639763539:=True
def tw2400375814766038322:=True
def tw14854935369219504490:=True
def tw2574731874479988410:=True
def tw18188944062689806397:=True
def tw14705700898862816816:=True
def tw3085206479732894674:=True
def tw348819510613550222:=True
def tw6376162940358656888:=True
def tw18222490868859174988:=True
def tw9465020502818173707:=True
def tw12290227146044934569:=True
def tw9107768756377087672:=True
def tw3430033788627902072:=True
def tw10936202169778820060:=True
def tw16284283598746106208:=True
def tw14248259580365901886:=True
def tw5761540509082824792:=True
def tw5703701736022681328:=True
def tw3389044143163799713:=True
def tw12898989609146798978:=True
def tw12014568228780729384:=True
def tw8371063769236618144:=True
def tw4036181360687090677:=True
def tw17943423995801363792:=True
def tw1871104586621427554:=True
def tw4784848907700591620:=True
def tw14177284990439964519:=True
def tw6903862024288861938:=True
def tw4862859009097950239:=True
def tw16623699095820093724:=True
def tw17677003415604575311:=True
def tw3430520051496177452:=True
def tw8536248069266917957:=True
def tw4433624624894605546:=True
def tw16369875729925676023:=True
def tw11805470152589067060:=True
def tw3201149800297546217:=True
def tw18150227699260199552:=True
def tw4692854766428583611:=True
def tw6489301238411507271:=True
def tw10408650200114418944:=True
def tw15994391926697028814:=True
def tw3534698991902239121:=True
def tw5665841022802070591:=True
def tw12031136199578183152:=True
def tw4524174272059440803:=True
def tw16818372791048135508:=True
def tw9830694010540039679:=True
def tw16085319554088384747:=True
def tw8933008009087698719:=True
def tw6404639275815308626:=True
def tw16777898684999483501:=True
def tw8814266966076763214:=True
def tw14237752811389268045:=True
def tw11163452427881828652:=True
def tw1992926292687206054:=True
def tw14735448918197193615:=True
def tw16075039262104701304:=True
def tw16965295676711863431:=True
def tw15413928509907280972:=True
def tw15541563094035579443:=True
def tw15350637109037223882:=True
def tw7459459894931263425:=True
def tw945159872573521327:=True
def tw14708257614273326277:=True
def tw2284387430932568123:=True
def tw4106938466174855534:=True
def tw1556047786050344543:=True
def tw9983938529073176624:=True
def tw14710934560685142811:=True
def tw13990104165133602892:=True
def tw15429679691776496470:=True
def tw552611909503953587:=True
def tw11704405513016890630:=True
def tw7096454978198851936:=True
def tw8292066726241644531:=True
def tw11443043675511803985:=True
def tw7369782068196641561:=True
def tw3240060213595005488:=True
def tw13101183547216550146:=True
def tw15204508803744941038:=True
def tw7655288538086214399:=True
def tw14179333729363325149:=True
def tw4249756790884042477:=True
def tw13949421032656637527:=True
def tw13208125973082241950:=True
def tw13543883865150112316:=True
def tw5119297438915076081:=True
def tw15611845012441837622:=True
def tw15053958783244824752:=True
def tw14838647536108202138:=True
def tw17840494323987695141:=True
def tw8943981897060021171:=True
def tw2180626183299469744:=True
def tw10800419496604443719:=True
def tw9697390570692812418:=True
def tw7179648703821284736:=True
def tw2912979068191218469:=True
def tw1627145138335459483:=True
def tw8040999246535322522:=True
def tw4424096076434511519:=True
def tw5199348767035910774:=True
def tw5590087975295258334:=True
def tw6681396959738964976:=True
def tw10546447497468474887:=True
def tw10699190082810279751:=True
def tw16224439971049386453:=True
def tw4994984488985887359:=True
def tw3527445243728291270:=True
def tw3079587361865665136:=True
def tw4093139542499904114:=True
def tw6931341022999723990:=True
def tw8856506855549324159:=True
def tw4290020761342053667:=True
def tw13502772312193963882:=True
def tw14949303084373423773:=True
def tw11833880827012173159:=True
def tw6748005695388156184:=True
def tw1423849001419370337:=True
def tw4918769575698027248:=True
def tw16052882063372145667:=True
def tw8967783780839047351:=True
def tw13704702580703184766:=True
def tw1554470854915037292:=True
def tw1381319592541438999:=True
def tw15080025195358900117:=True
def tw15052164466645348232:=True
def tw9148257320816557023:=True
def tw7603367308363305615:=True
def tw1355839484419066979:=True
def tw14245114099269560460:=True
def tw10944206331806194813:=True
def tw7415381915649893659:=True
def tw4433067534327537062:=True
def tw13785920516372377927:=True
def tw5297071130900345342:=True
def tw10278034245651415478:=True
def tw11734980403535279808:=True
def tw15821876626824635286:=True
def tw982930110888174091:=True
def tw2018604700893004720:=True
def tw15526636017038108038:=True
def tw9942839576813302097:=True
def tw13670977217960648053:=True
def tw5330418232879601342:=True
def tw7679205577277676988:=True
def tw4486715266056524931:=True
def tw16293973885491853917:=True
def tw11250353506124661190:=True
def tw15849060504241598435:=True
def tw1463474184506885182:=True
def tw7878266357875405813:=True
def tw12182767957464019169:=True
def tw2085563556536455249:=True
def tw5999419854164525414:=True
def tw383947996906363844:=True
def tw17018917076771827675:=True
def tw9310371271350825188:=True
def tw6417884390582600204:=True
def tw16721630880862501987:=True
def tw678174698416779835:=True
def tw18093204267754538763:=True
def tw13046882890977799639:=True
def tw11543947144283449835:=True
def tw57421901655741246:=True
def tw9443424744845881422:=True
def tw15401107545102159851:=True
def tw11866961414314190086:=True
def tw15962798933979758065:=True
def tw17606022081684925749:=True
def tw9652692116712388086:=True
def tw7518406024859504114:=True
def tw5438015522919037061:=True
def tw2700539848093925814:=True
def tw6127617755980659131:=True
def tw17731235047530311239:=True
def tw17541704971138523520:=True
def tw1644015358027957701:=True
def tw3472414489697425842:=True
def tw1124791127242040761:=True
def tw16077794686482396174:=True
def tw6662250853758054920:=True
def tw1380427740826197570:=True
def tw6817662078639618284:=True
def tw2556809975009223265:=True
def tw5716583905069583008:=True
def tw10532750459796176989:=True
def tw9301843352930368280:=True
def tw3741921592711791748:=True
def tw16487978908484733328:=True
def tw3087405483227929050:=True
def tw9614710594160710243:=True
def tw1675060729615026168:=True
def tw5437190115145243306:=True
def tw17803871014542691617:=True
def tw7740136816004172189:=True
def tw13585225761450160705:=True
def tw907688692296702202:=True
def tw11460570308742925258:=True
def tw3437434674059207479:=True
def tw7177698618482565321:=True
def tw1558313700142735498:=True
def tw13735282951673869799:=True
def tw12434698995002877952:=True
def tw17646816020276961140:=True
def tw12015285034465003765:=True
def tw7298868855522521973:=True
def tw16616992889977661704:=True
def tw3526533256184010899:=True
def tw2187977338967701668:=True
def tw4667152288716364928:=True
def tw15880899460964623531:=True
def tw10960208157128837912:=True
def tw1870037357541037691:=True
def tw17060136772712499562:=True
def tw16802447427229246614:=True
def tw10258764181856199274:=True
def tw2226697433779254036:=True
def tw6181022618020703260:=True
def tw15296839637954402389:=True
def tw2336674394618895645:=True
def tw10547303350608970389:=True
def tw11244552644579046632:=True
def tw16475614424740619951:=True
def tw3432476712208985574:=True
def tw15790523427596750227:=True
def tw1262629653086651330:=True
def tw11578586323580847228:=True
def tw5858646395200027072:=True
def tw803643169086133121:=True
def tw10140007771432839625:=True
def tw7777420569291173832:=True
def tw2660653463399658766:=True
def tw18362927351211277728:=True
def tw4340575045524108204:=True
def tw11897906910469265465:=True
def tw15110276931126062694:=True
def tw15507601995316088921:=True
def tw14801572859147937791:=True
def tw14775095631710709737:=True
def tw1016602004424928394:=True
def tw14868390516005180036:=True
def tw14452142961077470124:=True
def tw2962040115430260931:=True
def tw16847165866473453667:=True
def tw12948592007091917397:=True
def tw6184916790944256943:=True
def tw1187450548604482692:=True
def tw1097313867794560253:=True
def tw14899284717846693860:=True
def tw12045979322419862709:=True
def tw7919959309033264026:=True
def tw5521674176044995614:=True
def tw12447393280718153022:=True
def tw13568185340493050209:=True
def tw1432204150116134583:=True
def tw13028883306231039020:=True
def tw2750900593356906140:=True
def tw18080334900149143743:=True
def tw11651870667692498967:=True
def tw15802946507841244071:=True
def tw12580976385537423137:=True
def tw16113198263399773086:=True
def tw6298408272833872505:=True
def tw5293954276111039245:=True
def tw5249013409285286583:=True
def tw12819509716223658157:=True
def tw15297558402324573045:=True
def tw16538108977622186043:=True
def tw5842983667345445374:=True
def tw6620883261299982480:=True
def tw13037830582041243818:=True
def tw14583315306901769374:=True
def tw728803210421049041:=True
def tw189987711053859317:=True
def tw9695862399202149758:=True
def tw1518493315360327245:=True
def tw1644511439167410409:=True
def tw6672886222690796953:=True
def tw1831308085250107422:=True
def tw11128753916461930909:=True
def tw16745631842854232076:=True
def tw12831119896365074905:=True
def tw10079337614329271191:=True
def tw17879691649306587839:=True
def tw9245149242959752979:=True
def tw4600986088941896521:=True
def tw3611057577047462567:=True
def tw10780294876772109100:=True
def tw10766866398848216679:=True
def tw6202042351145396156:=True
def tw17734865757454741246:=True
def tw11998709768297697044:=True
def tw14128473613167091728:=True
def tw15533728750957243143:=True
def tw6515662424111562499:=True
def tw4194074348123046410:=True
def tw11362587695035623792:=True
def tw4431976678892836207:=True
def tw12765088043413612304:=True
def tw8893799775237434652:=True
def tw15494968568829392202:=True
def tw10825971693646698975:=True
def tw12041531319128379475:=True
def tw9932130272005700069:=True
def tw834699266538451202:=True
def tw100415218037566616:=True
def tw1768676712230774919:=True
def tw16608014112974629694:=True
def tw9526694599026764276:=True
def tw6468002930291760888:=True
def tw5484844969167999265:=True
def tw733557198593115209:=True
def tw13154764205694198799:=True
def tw1745311132120634233:=True
def tw16256452330086721380:=True
def tw13910673716828968611:=True
def tw15265487089930770826:=True
def tw11771580482081435197:=True
def tw12628362941762083781:=True
def tw10706160187859521451:=True
def tw11889658294929754295:=True
def tw5198634609848640390:=True
def tw15197286397159875998:=True
def tw13314426453937248414:=True
def tw16222977955296471300:=True
def tw2207071307954431576:=True
def tw2290300333618794136:=True
def tw2243814209555300158:=True
def tw4413949317402766914:=True
def tw3977647008529631592:=True
def tw12510497476726980339:=True
def tw2589987630470334229:=True
def tw9620513031843891767:=True
def tw16494338559826201535:=True
def tw9963079918041008991:=True
def tw18127708787399090608:=True
def tw12991834766350559759:=True
def tw2524030729292749296:=True
def tw14039742845638188372:=True
def tw13782899683618753743:=True
def tw1076581517542038369:=True
def tw9869664714770150390:=True
def tw18042792417121313581:=True
def tw11884218743766882243:=True
def tw1789623805462566026:=True
def tw16776838257619857692:=True
def tw6289059669310738687:=True
def tw5867912436227462837:=True
def tw1184924358692118154:=True
def tw8165709103626042940:=True
def tw12096912551232490658:=True
def tw15560302323840118899:=True
def tw3658953573335991731:=True
def tw2704586334610616046:=True
def tw18270982905522002999:=True
def tw7632266525730764428:=True
def tw8768208425034240069:=True
def tw14921018030495635312:=True
def tw15625533942505499015:=True
def tw6273005194557075567:=True
def tw926394358413262346:=True
def tw16955387323045242028:=True
def tw14200146603370916335:=True
def tw10441654304987378351:=True
def tw14375116085597481776:=True
def tw6276184872557734461:=True
def tw1311082044160969636:=True
def tw8372652529106386204:=True
def tw9054626404608189510:=True
def tw5515200286767200846:=True
def tw875255285134452935:=True
def tw15254724070874655614:=True
def tw9506864593296221421:=True
def tw14281354273814164015:=True
def tw4323879503368668954:=True
def tw8073561099881989208:=True
def tw5619809373972904703:=True
def tw15272495301868819963:=True
def tw11165248564463805389:=True
def tw1511748538640653600:=True
def tw11315869831592904878:=True
def tw14517077410143465429:=True
def tw13575662356029606838:=True
def tw3178336266402338296:=True
def tw204634656862454519:=True
def tw9434295760415009207:=True
def tw5351743091306324710:=True
def tw2181926847765180255:=True
def tw4901959388708515417:=True
def tw12628947460829045930:=True
def tw11770283063929889420:=True
def tw15126764844993407033:=True
def tw5660397761290006359:=True
def tw412652253439136290:=True
def tw582684830415593652:=True
def tw13370607233949497432:=True
def tw10584174624410217627:=True
def tw5648683670057083083:=True
def tw1086249541273120590:=True
def tw6339537214116753850:=True
def tw10962371104017026082:=True
def tw5352496658563296800:=True
def tw4369145062498969909:=True
def tw9555977756662858032:=True
def tw738613931808090635:=True
def tw2997896583097909714:=True
def tw8059321560287128185:=True
def tw820717348452689407:=True
def tw2856344848561991178:=True
def tw2288607581298597800:=True
def tw15298085545952633712:=True
def tw17865192214103005170:=True
def tw4147505755845693775:=True
def tw4474758358848054131:=True
def tw2561625404572976833:=True
def tw2346412975076263569:=True
def tw11908355351772872396:=True
def tw11695090631281911318:=True
def tw14726060199128145760:=True
def tw7957528864666764010:=True
def tw18117949342711395027:=True
def tw7131578714072016854:=True
def tw5711073015537346142:=True
def tw3101723437413963993:=True
def tw1044677930562442293:=True
def tw4590794802146832420:=True
def tw6664783386528953937:=True
def tw11194082834525150102:=True
def tw6758651605270054840:=True
def tw14525000127309797982:=True
def tw15799733441229270294:=True
def tw12420927492644323027:=True
def tw10269612860863980647:=True
def tw769218425635247515:=True
def tw14816275527263138334:=True
def tw3396507991438578326:=True
def tw5539114494039398566:=True
def tw12358769259204340398:=True
def tw1088114826517881569:=True
def tw2946376565162232525:=True
def tw4526038888615164510:=True
def tw4933465823713191611:=True
def tw12756042234584566620:=True
def tw14114336270061529267:=True
def tw13522404326948819179:=True
def tw6747072525720111825:=True
def tw2497577438050841585:=True
def tw6229257562921684209:=True
def tw6308156614970517104:=True
def tw16713105842273882270:=True
def tw12892669692137643418:=True
def tw9306950341760501042:=True
def tw5577644626106558494:=True
def tw10122857309231959698:=True
def tw9823890091775878604:=True
def tw9501284159177774931:=True
def tw4278313046373399565:=True
def tw15674929785213576333:=True
def tw1548979209863926081:=True
def tw4797769562828622159:=True
def tw8640905684994304303:=True
def tw15364312250291189073:=True
def tw1580417719400557024:=True
def tw13716776453769776558:=True
def tw17227024111009502289:=True
def tw3240844565235466021:=True
def tw6313069466076671801:=True
def tw3642813991647264469:=True
def tw9129367084740230794:=True
def tw16531000354345935763:=True
def tw2741257695575686353:=True
def tw4726578056155294638:=True
def tw5249328009870674663:=True
def tw7991361161978991570:=True
def tw5243170714386831576:=True
def tw11515476235438515627:=True
def tw15819935665102199470:=True
def tw2168993904833431253:=True
def tw8832114198218023232:=True
def tw6157730085743495101:=True
def tw10312035420812395176:=True
def tw3887778731720205364:=True
def tw13790473765148719107:=True
def tw17589323974452435843:=True
def tw12550530733510270307:=True
def tw6407865007600580331:=True
def tw14812654862088287691:=True
def tw5300287177418530638:=True
def tw1110767608188789815:=True
def tw8211194800062009460:=True
def tw7216082148000298782:=True
def tw15297883944354993446:=True
def tw7045485211936888805:=True
def tw8249410090378063890:=True
def tw6605182261717202344:=True
def tw11259002701386777689:=True
def tw12855498110488104163:=True
def tw10317983907500323833:=True
def tw4134020229399598846:=True
def tw11986569140156480488:=True
def tw11436385235301046085:=True
def tw4679536486797612183:=True
def tw12765622682409137350:=True
def tw9228346127861059996:=True
def tw14088904203636747603:=True
def tw12556242513179637583:=True
def tw1063280548388039891:=True
def tw7777389448077739011:=True
def tw2422485114674444769:=True
def tw11283473783389784077:=True
def tw6476218043754375111:=True
def tw17136859598930915937:=True
def tw11494424642289083587:=True
def tw10412957936676993894:=True
def tw15868132470452067539:=True
def tw9925600194039404071:=True
def tw6553684464299977236:=True
def tw13745207172179376613:=True
def tw6376471292870438990:=True
def tw114575347881072179:=True
def tw9003785440128493078:=True
def tw1187487171737174479:=True
def tw13971362184734770687:=True
def tw301607060790271725:=True
def tw3548080238121592389:=True
def tw8492233270347768770:=True
def tw15227120757655237043:=True
def tw16368749479157075967:=True
def tw16021109001552755976:=True
def tw7918403115388311968:=True
def tw694392687688105194:=True
def tw17315818893196644054:=True
def tw15189078906865556027:=True
def tw9189433348198521606:=True
def tw2639669412077649989:=True
def tw5974253545463545321:=True
def tw1152022126233652257:=True
def tw17938653754792955192:=True
def tw888731712616698351:=True
def tw1710111144349909401:=True
def tw2143013620730879202:=True
def tw12006442303528121160:=True
def tw3283095234809142625:=True
def tw12083875364820225952:=True
def tw16614827807278580466:=True
def tw4579810033602915472:=True
def tw4365393227791408870:=True
def tw16529606854439293067:=True
def tw6131690132531868106:=True
def tw5760023929960176054:=True
def tw13334542867028297260:=True
def tw1571745032121398367:=True
def tw10944772552948470592:=True
def tw6019349817511402001:=True
def tw17783697658666601120:=True
def tw14169879618585683028:=True
def tw7331040215015420490:=True
def tw17523428979495507693:=True
def tw11780136227050882713:=True
def tw5465551813105606476:=True
def tw4927750762126360986:=True
def tw4631247174934275302:=True
def tw17623667402290873126:=True
def tw6587346298467700005:=True
def tw17427297807705461951:=True
def tw9404190110271136891:=True
def tw13449193940483144877:=True
def tw5954049624000382003:=True
def tw9820747187678703917:=True
def tw18322837623604949993:=True
def tw5499643581037695542:=True
def tw15479578188694920791:=True
def tw15564023231314456666:=True
def tw5584489798602043695:=True
def tw18166995307701789913:=True
def tw16302826441207489932:=True
def tw12756044607665171912:=True
def tw8545502016684460933:=True
def tw8873612443871794871:=True
def tw9337547079209020882:=True
def tw5535487801889871828:=True
def tw9468246701549741078:=True
def tw6604036867767709058:=True
def tw16344295640190574577:=True
def tw11767575925908593851:=True
def tw4487440453225996685:=True
def tw17828351164636589425:=True
def tw2294299085508175306:=True
def tw4121566735492918760:=True
def tw12867914179695804781:=True
def tw2707027294556607412:=True
def tw8204978677559756707:=True
def tw16610787584978284300:=True
def tw16963769182519449056:=True
def tw3100866048648031069:=True
def tw14387170568669643553:=True
def tw696570604648964585:=True
def tw6571716033371429179:=True
def tw13143499024276722770:=True
def tw3078776125857019196:=True
def tw12906639645722987502:=True
def tw17888328717835812204:=True
def tw5885345583750105893:=True
def tw9127450586493691835:=True
def tw8092923271232765715:=True
def tw10443783051718627871:=True
def tw7840258209993327129:=True
def tw2995855960194297265:=True
def tw5000612441012888873:=True
def tw3662171633334203528:=True
def tw12471586086739862228:=True
def tw2464737746591491337:=True
def tw5021630998323355064:=True
def tw6725097602026572254:=True
def tw15545967585985230488:=True
def tw9202316524480936954:=True
def tw13018618157544163122:=True
def tw8823745175112289446:=True
def tw14610499776849308293:=True
def tw3922888953000718181:=True
def tw13055636745566020994:=True
def tw13871325183499628402:=True
def tw5991727845356023708:=True
def tw16641025570180069924:=True
def tw12613969071647487033:=True
def tw6160100529214204063:=True
def tw13656128099040287792:=True
def tw14683950289759663983:=True
def tw400901960149641940:=True
def tw11218544283608475904:=True
def tw10848827534643967829:=True
def tw410926861165290193:=True
def tw12923947966055798733:=True
def tw12789959845735371187:=True
def tw11601275034408142332:=True
def tw3057720495707295011:=True
def tw16235534332221500518:=True
def tw4042410495678649210:=True
def tw2523449973850422593:=True
def tw4772628984289299673:=True
def tw4534956533412499219:=True
def tw18085400775680846507:=True
def tw14961488216895862902:=True
def tw7745323270502014667:=True
def tw7381648144132583427:=True
def tw13387561099142202098:=True
def tw5967629542813749573:=True
def tw638349145948607697:=True
def tw13524113808638600703:=True
def tw9220454558820603219:=True
def tw206661431035605920:=True
def tw13107726721124120842:=True
def tw15240249331506410757:=True
def tw5221160857081910078:=True
def tw17052953838048440507:=True
def tw3034318194079340:=True
def tw3375400593715889200:=True
def tw17455488089656839213:=True
def tw13296845960087544984:=True
def tw7436765052230004672:=True
def tw1068808866053564386:=True
def tw17399260768076763027:=True
def tw14429724305775436737:=True
def tw10306136238571384264:=True
def tw1525087398515355972:=True
def tw10377858397935923522:=True
def tw3775283539632477703:=True
def tw4172352766720561726:=True
def tw15379045695374434659:=True
def tw17601457935328886883:=True
def tw10806294154614443290:=True
def tw11860747910604736057:=True
def tw14537209047203900765:=True
def tw2541291826091753817:=True
def tw5851691100444272477:=True
def tw7726722541687187897:=True
def tw7632819240706668368:=True
def tw4042628114135350602:=True
def tw6753447318766609628:=True
def tw5072031560554611800:=True
def tw1892378625406276372:=True
def tw11193235826432026813:=True
def tw15660281852308486722:=True
def tw1374787197095329129:=True
def tw16068279773407748994:=True
def tw17812747744819916736:=True
def tw9677898496401493659:=True
def tw14342684457353960527:=True
def tw7944554388500394852:=True
def tw13237220756327049281:=True
def tw2331335032311734706:=True
def tw7749920599051491266:=True
def tw6385625104080090870:=True
def tw8781358089625134057:=True
def tw13257746976771100390:=True
def tw15251315794247087760:=True
def tw5440582059661647690:=True
def tw5496079004730659192:=True
def tw12919632425819613157:=True
def tw9370909946765559027:=True
def tw14987760899964645669:=True
def tw8851366079097028723:=True
def tw1350988260109860995:=True
def tw2713278661705342612:=True
def tw13332824592700759584:=True
def tw4316871100346805785:=True
def tw10681662595345237273:=True
def tw13199496107981862583:=True
def tw5680413779188534954:=True
def tw14879642817448674899:=True
def tw4527404261591697054:=True
def tw9049841716870871748:=True
def tw8264294078963380414:=True
def tw16046201485030224935:=True
def tw2530174235619927145:=True
def tw1961561614340332685:=True
def tw12404060028997171836:=True
def tw3097358908298460240:=True
def tw17965468847376975316:=True
def tw16662464322148951403:=True
def tw10533590615976375431:=True
def tw8655027814112272261:=True
def tw1590603167823839006:=True
def tw3820633693090920358:=True
def tw5554017316581918729:=True
def tw8026507330901428372:=True
def tw12664209781489947385:=True
def tw17941266142583540080:=True
def tw2035868766319748711:=True
def tw17218954388256575693:=True
def tw13287806296164626940:=True
def tw14687398147371318708:=True
def tw5733182472743370445:=True
def tw12885143183428396949:=True
def tw1205443893741588015:=True
def tw17220129553475809957:=True
def tw5855058974194062238:=True
def tw423902354369557193:=True
def tw2168884724241269363:=True
def tw5425910658461403419:=True
def tw2200400900648736576:=True
def tw4151254276144611960:=True
def tw18212751401777880974:=True
def tw8505360773663644350:=True
def tw16321148395945864462:=True
def tw3147825317197845857:=True
def tw1925144945248855926:=True
def tw17810078367884204330:=True
def tw5219401318542061307:=True
def tw16283433899709413136:=True
def tw2026511066183441932:=True
def tw4305723737297581856:=True
def tw13696053107708688808:=True
def tw5509273470456515492:=True
def tw12959723465998554707:=True
def tw9961582657388270356:=True
def tw11501834258524404743:=True
def tw11306054133629572246:=True
def tw13000392498274045976:=True
def tw14337930987948761344:=True
def tw12222393306043439849:=True
def tw180205570138002851:=True
def tw9636879650155735940:=True
def tw4291745514135135880:=True
def tw11600186292940109068:=True
def tw17828182457638632037:=True
def tw4845819224891213789:=True
def tw8733635155965048202:=True
def tw7045238294967404782:=True
def tw10809176220814041737:=True
def tw14343463984447793739:=True
def tw18195919882202883124:=True
def tw12115095469247125233:=True
def tw8414117606717426890:=True
def tw7610472535523586686:=True
def tw14396877786225337490:=True
def tw12983723286395302366:=True
def tw2855884744954886862:=True
def tw6938175149064382783:=True
def tw12920473253912085911:=True
def tw16695313311148359095:=True
def tw4971383994852085405:=True
def tw11792786513788329673:=True
end PySem.W.Fast
set_option maxRecDepth 100000 in
set_option maxHeartbeats 0 in
theorem PySem.Challenge.cw_combstrip_k38_whole_all_fillings_holds : PySem.Challenge.rw_combstrip_k38_whole_all_fillings.Holds := by
 w_on; o_law; k_head; (case hw=>w_witness2)
 k_fill
 refine K38.walk (l:=PySem.Challenge.rw_combstrip_k38_whole_all_fillings) rfl rfl (fun w h Y=>PySem.W.kIn_of Y) ?F
 case F =>
  intro w mg fa h KX G hmg
  refine' K38.all KX G hmg (L2.bn_mk KX G ?n0 ?n1 ?n2 ?n3 ?n4 ?n5 ?n6 ?n7 ?n8 ?n9 ?n10 ?n11 ?n12 ?n13 ?n14 ?n15 ?n16 ?n17 ?n18 ?n19 ?n20) ?v0 ?v1 ?v2 ?v3 ?v4 ?v5 ?zgt0 ?ztc0 ?r0 ?r1 ?r2 ?r3 ?r4 ?r5 ?r6 ?r7 ?r8 ?r9 ?r10 ?r11 ?r12 ?r13 ?r14 ?zrce ?zhc ?zini ?zbc ?m0 ?m1 ?m2 ?m3 ?m4 ?m5 ?d0 ?d1 ?d2 ?d3 ?d4 ?d5 ?d6 ?d7 ?d8 ?d9 ?d10 ?d11 ?d12 ?d13 ?d14 ?d15 ?d16 ?d17 ?d18 ?d19 ?d20 ?d21 ?d22 ?d23 ?d24 ?d25 ?d26 ?d27 ?d28 ?d29 ?d30 ?d31 ?d32 ?d33 ?d34 ?d35 ?d36 ?d37 ?d38 ?d39 ?d40
  (case n0=>k_is)
  (case n1=>k_is)
  (case n2=>k_is)
  (case n3=>k_is)
  (case n4=>k_is)
  (case n5=>k_is)
  (case n6=>k_is)
  (case n7=>k_is)
  (case n8=>k_is)
  (case n9=>k_is)
  (case n10=>k_is)
  (case n11=>k_is)
  (case n12=>k_is)
  (case n13=>k_is)
  (case n14=>k_is)
  (case n15=>k_is)
  (case n16=>k_is)
  (case n17=>k_is)
  (case n18=>k_is)
  (case n19=>k_is)
  (case n20=>k_is)
  (case v0=>refine' L2.int_mk KX G ?a; (case a=>k_is))
  (case v1=>refine' L2.int_mk KX G ?a; (case a=>k_is))
  (case v2=>refine' L2.int_mk KX G ?a; (case a=>k_is))
  (case v3=>refine' L2.int_mk KX G ?a; (case a=>k_is))
  (case v4=>refine' L2.int_mk KX G ?a; (case a=>k_is))
  (case v5=>refine' L2.int_mk KX G ?a; (case a=>k_is))
  (case zgt0=>refine' L2.ref_mk KX G ?a; (case a=>k_is))
  (case ztc0=>kernel_rfl)
  (case r0=>refine' L2.ref_mk KX G ?a; (case a=>k_is))
  (case r1=>refine' L2.ref_mk KX G ?a; (case a=>k_is))
  (case r2=>refine' L2.ref_mk KX G ?a; (case a=>k_is))
  (case r3=>refine' L2.ref_mk KX G ?a; (case a=>k_is))
  (case r4=>refine' L2.ref_mk KX G ?a; (case a=>k_is))
  (case r5=>refine' L2.ref_mk KX G ?a; (case a=>k_is))
  (case r6=>refine' L2.ref_mk KX G ?a; (case a=>k_is))
  (case r7=>refine' L2.ref_mk KX G ?a; (case a=>k_is))
  (case r8=>refine' L2.ref_mk KX G ?a; (case a=>k_is))
  (case r9=>refine' L2.ref_mk KX G ?a; (case a=>k_is))
  (case r10=>refine' L2.ref_mk KX G ?a; (case a=>k_is))
  (case r11=>refine' L2.ref_mk KX G ?a; (case a=>k_is))
  (case r12=>refine' L2.ref_mk KX G ?a; (case a=>k_is))
  (case r13=>refine' L2.ref_mk KX G ?a; (case a=>k_is))
  (case r14=>refine' L2.ref_mk KX G ?a; (case a=>k_is))
  (case zrce=>refine' L2.ref_mk KX G ?a; (case a=>k_is))
  (case zhc=>kernel_rfl)
  (case zini=>refine' L2.init_mk (L2.ref_mk KX G ?z) ?a ?l ?c ?k ?i ?k2 ?mk; (case z=>k_is); (case a=>k_is); (case l=>k_is); (case c=>k_is); (case k=>k_is); (case i=>k_is); (case k2=>k_is); (case mk=>k_is))
  (case zbc=>kernel_rfl)
  (case m0=>refine' L2.meth_mk ?a ?l ?c ?k ?i; (case a=>k_is); (case l=>k_is); (case c=>k_is); (case k=>k_is); (case i=>k_is))
  (case m1=>refine' L2.meth_mk ?a ?l ?c ?k ?i; (case a=>k_is); (case l=>k_is); (case c=>k_is); (case k=>k_is); (case i=>k_is))
  (case m2=>refine' L2.meth_mk ?a ?l ?c ?k ?i; (case a=>k_is); (case l=>k_is); (case c=>k_is); (case k=>k_is); (case i=>k_is))
  (case m3=>refine' L2.meth_mk ?a ?l ?c ?k ?i; (case a=>k_is); (case l=>k_is); (case c=>k_is); (case k=>k_is); (case i=>k_is))
  (case m4=>refine' L2.meth_mk ?a ?l ?c ?k ?i; (case a=>k_is); (case l=>k_is); (case c=>k_is); (case k=>k_is); (case i=>k_is))
  (case m5=>refine' L2.meth_mk ?a ?l ?c ?k ?i; (case a=>k_is); (case l=>k_is); (case c=>k_is); (case k=>k_is); (case i=>k_is))
  (case d0=>refine' L2.def_mk KX G ?a ?l ?c ?k; (case a=>k_is); (case l=>k_is); (case c=>k_is); (case k=>k_is))
  (case d1=>refine' L2.def_mk KX G ?a ?l ?c ?k; (case a=>k_is); (case l=>k_is); (case c=>k_is); (case k=>k_is))
  (case d2=>refine' L2.def_mk KX G ?a ?l ?c ?k; (case a=>k_is); (case l=>k_is); (case c=>k_is); (case k=>k_is))
  (case d3=>refine' L2.def_mk KX G ?a ?l ?c ?k; (case a=>k_is); (case l=>k_is); (case c=>k_is); (case k=>k_is))
  (case d4=>refine' L2.def_mk KX G ?a ?l ?c ?k; (case a=>k_is); (case l=>k_is); (case c=>k_is); (case k=>k_is))
  (case d5=>refine' L2.def_mk KX G ?a ?l ?c ?k; (case a=>k_is); (case l=>k_is); (case c=>k_is); (case k=>k_is))
  (case d6=>refine' L2.def_mk KX G ?a ?l ?c ?k; (case a=>k_is); (case l=>k_is); (case c=>k_is); (case k=>k_is))
  (case d7=>refine' L2.def_mk KX G ?a ?l ?c ?k; (case a=>k_is); (case l=>k_is); (case c=>k_is); (case k=>k_is))
  (case d8=>refine' L2.def_mk KX G ?a ?l ?c ?k; (case a=>k_is); (case l=>k_is); (case c=>k_is); (case k=>k_is))
  (case d9=>refine' L2.def_mk KX G ?a ?l ?c ?k; (case a=>k_is); (case l=>k_is); (case c=>k_is); (case k=>k_is))
  (case d10=>refine' L2.def_mk KX G ?a ?l ?c ?k; (case a=>k_is); (case l=>k_is); (case c=>k_is); (case k=>k_is))
  (case d11=>refine' L2.def_mk KX G ?a ?l ?c ?k; (case a=>k_is); (case l=>k_is); (case c=>k_is); (case k=>k_is))
  (case d12=>refine' L2.def_mk KX G ?a ?l ?c ?k; (case a=>k_is); (case l=>k_is); (case c=>k_is); (case k=>k_is))
  (case d13=>refine' L2.def_mk KX G ?a ?l ?c ?k; (case a=>k_is); (case l=>k_is); (case c=>k_is); (case k=>k_is))
  (case d14=>refine' L2.def_mk KX G ?a ?l ?c ?k; (case a=>k_is); (case l=>k_is); (case c=>k_is); (case k=>k_is))
  (case d15=>refine' L2.def_mk KX G ?a ?l ?c ?k; (case a=>k_is); (case l=>k_is); (case c=>k_is); (case k=>k_is))
  (case d16=>refine' L2.def_mk KX G ?a ?l ?c ?k; (case a=>k_is); (case l=>k_is); (case c=>k_is); (case k=>k_is))
  (case d17=>refine' L2.def_mk KX G ?a ?l ?c ?k; (case a=>k_is); (case l=>k_is); (case c=>k_is); (case k=>k_is))
  (case d18=>refine' L2.def_mk KX G ?a ?l ?c ?k; (case a=>k_is); (case l=>k_is); (case c=>k_is); (case k=>k_is))
  (case d19=>refine' L2.def_mk KX G ?a ?l ?c ?k; (case a=>k_is); (case l=>k_is); (case c=>k_is); (case k=>k_is))
  (case d20=>refine' L2.def_mk KX G ?a ?l ?c ?k; (case a=>k_is); (case l=>k_is); (case c=>k_is); (case k=>k_is))
  (case d21=>refine' L2.def_mk KX G ?a ?l ?c ?k; (case a=>k_is); (case l=>k_is); (case c=>k_is); (case k=>k_is))
  (case d22=>refine' L2.def_mk KX G ?a ?l ?c ?k; (case a=>k_is); (case l=>k_is); (case c=>k_is); (case k=>k_is))
  (case d23=>refine' L2.def_mk KX G ?a ?l ?c ?k; (case a=>k_is); (case l=>k_is); (case c=>k_is); (case k=>k_is))
  (case d24=>refine' L2.def_mk KX G ?a ?l ?c ?k; (case a=>k_is); (case l=>k_is); (case c=>k_is); (case k=>k_is))
  (case d25=>refine' L2.def_mk KX G ?a ?l ?c ?k; (case a=>k_is); (case l=>k_is); (case c=>k_is); (case k=>k_is))
  (case d26=>refine' L2.def_mk KX G ?a ?l ?c ?k; (case a=>k_is); (case l=>k_is); (case c=>k_is); (case k=>k_is))
  (case d27=>refine' L2.def_mk KX G ?a ?l ?c ?k; (case a=>k_is); (case l=>k_is); (case c=>k_is); (case k=>k_is))
  (case d28=>refine' L2.def_mk KX G ?a ?l ?c ?k; (case a=>k_is); (case l=>k_is); (case c=>k_is); (case k=>k_is))
  (case d29=>refine' L2.def_mk KX G ?a ?l ?c ?k; (case a=>k_is); (case l=>k_is); (case c=>k_is); (case k=>k_is))
  (case d30=>refine' L2.def_mk KX G ?a ?l ?c ?k; (case a=>k_is); (case l=>k_is); (case c=>k_is); (case k=>k_is))
  (case d31=>refine' L2.def_mk KX G ?a ?l ?c ?k; (case a=>k_is); (case l=>k_is); (case c=>k_is); (case k=>k_is))
  (case d32=>refine' L2.def_mk KX G ?a ?l ?c ?k; (case a=>k_is); (case l=>k_is); (case c=>k_is); (case k=>k_is))
  (case d33=>refine' L2.def_mk KX G ?a ?l ?c ?k; (case a=>k_is); (case l=>k_is); (case c=>k_is); (case k=>k_is))
  (case d34=>refine' L2.def_mk KX G ?a ?l ?c ?k; (case a=>k_is); (case l=>k_is); (case c=>k_is); (case k=>k_is))
  (case d35=>refine' L2.def_mk KX G ?a ?l ?c ?k; (case a=>k_is); (case l=>k_is); (case c=>k_is); (case k=>k_is))
  (case d36=>refine' L2.def_mk KX G ?a ?l ?c ?k; (case a=>k_is); (case l=>k_is); (case c=>k_is); (case k=>k_is))
  (case d37=>refine' L2.def_mk KX G ?a ?l ?c ?k; (case a=>k_is); (case l=>k_is); (case c=>k_is); (case k=>k_is))
  (case d38=>refine' L2.def_mk KX G ?a ?l ?c ?k; (case a=>k_is); (case l=>k_is); (case c=>k_is); (case k=>k_is))
  (case d39=>refine' L2.def_mk KX G ?a ?l ?c ?k; (case a=>k_is); (case l=>k_is); (case c=>k_is); (case k=>k_is))
  (case d40=>refine' L2.def_mk KX G ?a ?l ?c ?k; (case a=>k_is); (case l=>k_is); (case c=>k_is); (case k=>k_is))
