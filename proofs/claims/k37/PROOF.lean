import PyProof.Rows.All
import Wide.All
import OpenK.AllK
import Wide.FinOn
import Lean
import PyProof.EqAt
import PyProof.EqKinds
import PyProof.TupleCall
import PySem.Challenge.RW_combstrip_k37_whole_small_planks
set_option Elab.async false
set_option linter.all false
set_option maxRecDepth 100000
set_option maxHeartbeats 40000000
local macro_rules | `(tactic| omega) => `(tactic| first | lia | omega +splitDisjunctions)
namespace L2
open PySem PySem.Spec PyProof.Rows
noncomputable abbrev Key:=Sum Int Str
noncomputable def keyIs:Key->Value->Bool
 | .inl k,v=>Value.isInt k v
 | .inr x,v=>Value.isStrOf x v
noncomputable def keyH (w:World):Key->Int
 | .inl k=>hashInt k
 | .inr x=>hashStr w x
theorem zaF:∀ {k:Key} {v:Value},keyIs k v=true->(∃ i t,k=Sum.inl i/\v=Value.int i t)\/(∃ x t,k=Sum.inr x/\v=Value.str x t)
 | .inl i,v,h=>by
  obtain ⟨t,e⟩:=Value.isInt_shape (k:=i) (v:=v) h
  exact .inl ⟨i,t,rfl,e⟩
 | .inr x,v,h=>by
  obtain ⟨t,e⟩:=Value.isStrOf_shape (x:=x) (v:=v) h
  exact .inr ⟨x,t,rfl,e⟩
theorem keyIs_int (i:Int) (t:Tok):keyIs (.inl i) (.int i t)=true:=by simp [keyIs,Value.isInt]
theorem keyIs_str (x:Str) (t:Tok):keyIs (.inr x) (.str x t)=true:=by simp [keyIs,Value.isStrOf]
theorem key_ll (a b:Int):decide ((Sum.inl a:Key)=Sum.inl b)=(a == b):=by
 by_cases e:a=b
 ·subst e; simp
 ·have h:¬ (Sum.inl a:Key)=Sum.inl b:=fun q=>e (Sum.inl.inj q)
  rw [decide_eq_false h]
  exact (beq_eq_false_iff_ne.mpr e).symm
theorem key_rr (a b:Str):decide ((Sum.inr a:Key)=Sum.inr b)=decide (a=b):=by
 by_cases e:a=b
 ·subst e; simp
 ·have h:¬ (Sum.inr a:Key)=Sum.inr b:=fun q=>e (Sum.inr.inj q)
  rw [decide_eq_false h,decide_eq_false e]
theorem key_lr (a:Int) (b:Str):decide ((Sum.inl a:Key)=Sum.inr b)=false:=decide_eq_false (fun q=>nomatch q)
theorem key_rl (a:Str) (b:Int):decide ((Sum.inr a:Key)=Sum.inl b)=false:=decide_eq_false (fun q=>nomatch q)
noncomputable def mixKind (prog:Program) (w:World):PySem.KeyKind prog w Key where
 is:=keyIs
 hash:=keyH w
 inj:=fun v a b ha hb=>by
  rcases zaF ha with ⟨i,t,rfl,rfl⟩ | ⟨x,t,rfl,rfl⟩
  ·rcases zaF hb with ⟨j,u,rfl,e⟩ | ⟨y,u,rfl,e⟩
   ·injection e with e1 _; rw [e1]
   ·exact nomatch e
  ·rcases zaF hb with ⟨j,u,rfl,e⟩ | ⟨y,u,rfl,e⟩
   ·exact nomatch e
   ·injection e with e1 _; rw [e1]
 byValue:=fun k v h=>by
  rcases zaF h with ⟨i,t,rfl,rfl⟩ | ⟨x,t,rfl,rfl⟩ <;> rfl
 pyHash:=fun hv h=>by
  rcases zaF hv with ⟨i,t,rfl,rfl⟩ | ⟨x,t,rfl,rfl⟩
  ·exact wpAny_pyHash_int h
  ·exact wpAny_pyHash_str h
 eqBool:=fun hu hv h=>by
  rcases zaF hu with ⟨i,t,rfl,rfl⟩ | ⟨x,t,rfl,rfl⟩
  ·rcases zaF hv with ⟨j,u,rfl,rfl⟩ | ⟨y,u,rfl,rfl⟩
   ·rw [key_ll] at h; exact wpAny_eqBool_int h
   ·rw [key_lr] at h; exact SeqAt.EqAt.int_str i t y u _ _ _ _ h
  ·rcases zaF hv with ⟨j,u,rfl,rfl⟩ | ⟨y,u,rfl,rfl⟩
   ·rw [key_rl] at h; exact SeqAt.EqAt.str_int x t j u _ _ _ _ h
   ·rw [key_rr] at h; exact wpAny_eqBool_str h
 «strs» := fun k x t v h=>by
  rcases zaF h with ⟨i,u,rfl,e⟩ | ⟨y,u,rfl,e⟩
  ·exact nomatch e
  ·injection e with e1 _
   subst e1
   cases v <;> rfl
theorem mixKind_int (prog:Program) (w:World) (i:Int) (t:Tok):(mixKind prog w).is (.inl i) (.int i t)=true:=keyIs_int i t
theorem mixKind_str (prog:Program) (w:World) (x:Str) (t:Tok):(mixKind prog w).is (.inr x) (.str x t)=true:=keyIs_str x t
inductive V where
 | non | bl (b:Bool) | int (i:Int) | str (x:Str) | byt (b:Array UInt8) | flt (b:UInt64) | ref (a:Addr) | ty (n:String)
 deriving DecidableEq
noncomputable def RelV:V->Value->Prop
 | .non,u=>u=Value.none
 | .bl b,u=>u=Value.bool b
 | .int i,u=>∃ t,u=Value.int i t
 | .str x,u=>∃ t,u=Value.str x t
 | .byt b,u=>∃ t,u=Value.bytes b t
 | .flt b,u=>∃ t,u=Value.float b t
 | .ref a,u=>u=Value.ref a
 | .ty n,u=>u=Value.type n
noncomputable abbrev Vals:List V->List Value->Prop:=Paired RelV
theorem Vals.length {xs:List V} {us:List Value} (r:Vals xs us):xs.length=us.length:=Paired.length r
theorem Vals.get:∀ {xs:List V} {us:List Value} {i:Nat} {x:V},Vals xs us->xs[i]?=some x->∃ u,us[i]?=some u/\RelV x u
 | _,_,_,_,.nil,e=>by simp at e
 | _,_,0,_,.cons r _,e=>by simp at e; subst e; exact ⟨_,rfl,r⟩
 | _,_,i + 1,x,.cons _ t,e=>by
  obtain ⟨u,h1,h2⟩:=Vals.get (i:=i) (x:=x) t (by simpa using e)
  exact ⟨u,by simpa using h1,h2⟩
theorem Vals.set {x:V} {u:Value} (r:RelV x u):∀ {xs:List V} {us:List Value} (i:Nat),Vals xs us->Vals (xs.set i x) (us.set i u)
 | _,_,_,.nil => .nil
 | _,_,0,.cons _ t => .cons r t
 | _,_,i + 1,.cons q t => .cons q (Vals.set r i t)
theorem Vals.append:∀ {xs ys:List V} {us ws:List Value},Vals xs us->Vals ys ws->Vals (xs ++ ys) (us ++ ws)
 | _,_,_,_,.nil,s=>s
 | _,_,_,_,.cons r t,s => .cons r (Vals.append t s)
theorem Vals.take:∀ {xs:List V} {us:List Value} (n:Nat),Vals xs us->Vals (xs.take n) (us.take n)
 | _,_,0,_ => .nil
 | _,_,_ + 1,.nil => .nil
 | _,_,n + 1,.cons r t => .cons r (Vals.take n t)
theorem Vals.drop:∀ {xs:List V} {us:List Value} (n:Nat),Vals xs us->Vals (xs.drop n) (us.drop n)
 | _,_,0,r=>r
 | _,_,_ + 1,.nil => .nil
 | _,_,n + 1,.cons _ t=>Vals.drop n t
noncomputable def RelO:Option V->Option Value->Prop
 | some v,some u=>RelV v u
 | none,none=>True
 | _,_=>False
noncomputable def KV {κ : Type}:List (κ × V)->List (κ × Value)->Prop:=Paired fun (p : κ × V) (q : κ × Value)=>p.1=q.1/\RelV p.2 q.2
noncomputable def kV:Key->V
 | .inl i => .int i
 | .inr x => .str x
inductive HO where
  | lst (xs:List V)
  | tup (xs:List V)
  | dK (kvs:List (Key×V)) | dT (kvs:List (List Key×V))
  | set (S:Int->Bool) (n:Nat)
  | ins (C dx:Addr) (fs:List (Str×V))
  | own (x:Addr)
  | xd (fs:List (Str×V))
  | met (f x:Addr)
  | rng (lo hi:Int)
  | frz (o:Obj) (u:HO)
  | tbl (ps:Array Value)
  | ext (φ : Heap->Prop)
noncomputable abbrev Hp:=Addr->Option HO
noncomputable def upd (H:Hp) (a:Addr) (o:HO):Hp:=fun b=>if b=a then some o else H b
theorem zaf {H:Hp} {a:Addr} {o:HO}:upd H a o a=some o:=by unfold upd; rw [if_pos rfl]
theorem zah {H:Hp} {a b:Addr} {o:HO} (h:b≠a):upd H a o b=H b:=by unfold upd; rw [if_neg h]
theorem zhC {H:Hp} {a b:Addr} {o u:HO} (h:H a=some o) (h':H b=some u) (d:o≠u):a≠b:=by
 intro e; subst e; rw [h] at h'; exact d (Option.some.inj h')
theorem zaq {H:Hp} {a b:Addr} {o:HO} (h:H a=some o) (h':H b=none):a≠b:=by
 intro e; subst e; rw [h] at h'; cases h'
section
variable (P:Program) (w:World)
noncomputable def ObjOk (H:Hp) (h:Heap) (a:Addr):HO->Prop
 | .lst xs=>xs.length<=sizeLine/\∃ (its:List Value) (n:Nat),Vals xs its/\h.get? a=some { cls := .type "list",data := .seq its.toArray n }
 | .tup xs=>xs.length<=sizeLine/\∃ its:List Value,Vals xs its/\IsTup h a its.toArray
 | .dK kvs=>kvs.length<=sizeLine/\(a == sysModules)=false/\∃ vs,KV kvs vs/\h.DictOf (mixKind P w) a vs
 | .dT kvs=>kvs.length<=sizeLine/\(a == sysModules)=false/\∃ xs:List (List Key×Addr×Value),
   Paired (fun (p:List Key×V) (q:List Key×Addr×Value)=>p.1=q.1/\H q.2.1=some (.tup (p.1.map kV))/\RelV p.2 q.2.2) kvs xs /\
   ∃ o es ep,h.get? a=some o/\o.ExactDict/\o.data = .dict es ep/\es.toList=xs.map (entryOfKey (tupleKind (mixKind P w)))/\(xs.map (·.1)).Nodup
 | .set S n=>h.SetOf (intKind P w) a S n
 | .ins C dx fs=>H dx=some (.own a)/\fs.length<=1000/\dx≠a/\h.get? a=some (PySem.W.instObj C dx) /\
   ∃ mA,h.Ns1 dx mA/\(∀ f,RelO (fs.lookup f) (mA f))/\PySem.Within mA (fs.map (·.1))
 | .own _=>∃ o,h.get? a=some o
 | .xd fs=>∃ mA,h.Ns1 a mA/\∀ f,RelO (fs.lookup f) (mA f)
 | .rng lo hi=>∃ t u v,h.get? a=some { cls := .type "range",data := .fields #[.int lo t,.int hi u,.int 1 v] }
 | .frz o u=>h.get? a=some o/\ObjOk H h a u
 | .tbl ps=>h.get? a=some { cls := .none,data := .fields ps }
 | .met f x=>h.get? a=some (PySem.W.methodObj (.ref f) (.ref x))
 | .ext φ => φ h/\(∃ o,h.get? a=some o)/\∀ h1 h2:Heap,φ h1->(∀ o,h1.get? a=some o->h2.get? a=some o) -> φ h2
noncomputable def HOk (H:Hp) (h:Heap):Prop:=∀ a o,H a=some o->ObjOk P w H h a o
end
section
variable {P:Program} {w:World} {H H':Hp} {h h':Heap} {a:Addr} {o:HO}
theorem ObjOk.lt (x:ObjOk P w H h a o):a < h.objs.size:=by
 cases o with
 | lst xs=>obtain ⟨_,_,_,_,e⟩:=x; exact Heap.lt_size e
 | tup xs=>obtain ⟨_,_,_,p⟩:=x; exact p.lt
 | dK kvs=>obtain ⟨_,_,_,_,o,_,_,e,_⟩:=x; exact Heap.lt_size e
 | dT kvs=>obtain ⟨_,_,_,_,o,_,_,e,_⟩:=x; exact Heap.lt_size e
 | set S n=>obtain ⟨o,_,_,_,e,_⟩:=x; exact Heap.lt_size e
 | ins C dx fs=>obtain ⟨_,_,_,e,_⟩:=x; exact Heap.lt_size e
 | own y=>obtain ⟨_,e⟩:=x; exact Heap.lt_size e
 | xd fs=>obtain ⟨_,⟨_,_,_,e,_⟩,_⟩:=x; exact Heap.lt_size e
 | rng lo hi=>obtain ⟨_,_,_,e⟩:=x; exact Heap.lt_size e
 | frz ob u=>obtain ⟨e,_⟩:=x; exact Heap.lt_size e
 | tbl ps=>exact Heap.lt_size (show h.get? a=some _ from x)
 | met f y=>exact Heap.lt_size (show h.get? a=some _ from x)
 | ext φ => obtain ⟨_,⟨_,e⟩,_⟩:=x; exact Heap.lt_size e
theorem Paired.mapP {α β : Type} {F G : α -> β -> Prop}:∀ {l₁ : List α} {l₂ : List β},Paired F l₁ l₂ -> (∀ a b,F a b->G a b)->Paired G l₁ l₂
 | _,_,.nil,_ => .nil
 | _,_,.cons r t,f => .cons (f _ _ r) (Paired.mapP t f)
theorem ObjOk.stay (x:ObjOk P w H h a o) (k:∀ b u,(b=a\/H b=some (.own a))->h.get? b=some u->h'.get? b=some u)
  (ho:∀ b,H b=some (.own a)->H' b=some (.own a)) (ht:∀ b xs,H b=some (.tup xs)->H' b=some (.tup xs)):ObjOk P w H' h' a o:=by
 induction o with
 | lst xs=>obtain ⟨z,its,n,r,e⟩:=x; exact ⟨z,its,n,r,k _ _ (.inl rfl) e⟩
 | tup xs=>obtain ⟨z,its,r,ob,e,c⟩:=x; exact ⟨z,its,r,ob,k _ _ (.inl rfl) e,c⟩
 | dK kvs=>obtain ⟨z,y,vs,r,ob,es,ep,e,c⟩:=x; exact ⟨z,y,vs,r,ob,es,ep,k _ _ (.inl rfl) e,c⟩
 | dT kvs =>
  obtain ⟨z,y,xs,r,ob,es,ep,e,c⟩:=x
  exact ⟨z,y,xs,Paired.mapP r fun p q z=>⟨z.1,ht _ _ z.2.1,z.2.2⟩,ob,es,ep,k _ _ (.inl rfl) e,c⟩
 | set S n=>obtain ⟨ob,es,ep,t,e,c⟩:=x; exact ⟨ob,es,ep,t,k _ _ (.inl rfl) e,c⟩
 | ins C dx fs =>
  obtain ⟨d,z,ne,e,mA,⟨od,es,ep,e2,c⟩,r⟩:=x
  exact ⟨ho _ d,z,ne,k _ _ (.inl rfl) e,mA,⟨od,es,ep,k _ _ (.inr d) e2,c⟩,r⟩
 | own y=>obtain ⟨ob,e⟩:=x; exact ⟨ob,k _ _ (.inl rfl) e⟩
 | xd fs=>obtain ⟨mA,⟨od,es,ep,e,c⟩,r⟩:=x; exact ⟨mA,⟨od,es,ep,k _ _ (.inl rfl) e,c⟩,r⟩
 | rng lo hi=>obtain ⟨t,u,v,e⟩:=x; exact ⟨t,u,v,k _ _ (.inl rfl) e⟩
 | frz ob u ih=>obtain ⟨e,q⟩:=x; exact ⟨k _ _ (.inl rfl) e,ih q⟩
 | tbl ps =>
  have e:h.get? a=some { cls := .none,data := .fields ps }:=x
  show h'.get? a=some { cls := .none,data := .fields ps }
  exact k a _ (.inl rfl) e
 | met f y =>
  have e:h.get? a=some (PySem.W.methodObj (.ref f) (.ref y)):=x
  show h'.get? a=some (PySem.W.methodObj (.ref f) (.ref y))
  exact k a _ (.inl rfl) e
 | ext φ => obtain ⟨p,⟨o,e⟩,st⟩:=x; exact ⟨st _ _ p fun o q=>k _ _ (.inl rfl) q,⟨o,k _ _ (.inl rfl) e⟩,st⟩
theorem HOk.lt (x:HOk P w H h) (e:H a=some o):a < h.objs.size:=(x a o e).lt
theorem HOk.fresh (x:HOk P w H h) (e:h.objs.size<=a):H a=none:=by
 cases q:H a with
 | none=>rfl
 | some u=>exact absurd (Nat.lt_of_lt_of_le (x.lt q) e) (Nat.lt_irrefl _)
theorem HOk.kept (x:HOk P w H h) (k:∀ b u,h.get? b=some u->h'.get? b=some u):HOk P w H h':=fun a o e =>
 (x a o e).stay (fun b u _ q=>k b u q) (fun _ q=>q) fun _ _ q=>q
theorem HOk.laid (x:HOk P w H h) (k:∀ b u,h.get? b=some u->h'.get? b=some u) (hp:h.objs.size<=a) (new:ObjOk P w (upd H a o) h' a o):HOk P w (upd H a o) h':=fun b u e=>by
 have hn:=x.fresh hp
 by_cases hb:b=a
 ·subst hb; rw [zaf] at e; cases e; exact new
 ·rw [zah hb] at e
  exact (x b u e).stay (fun c v _ q=>k c v q) (fun c q=>by rw [zah (zaq q hn)]; exact q) fun c xs q=>by rw [zah (zaq q hn)]; exact q
end
noncomputable def Rd (H:Hp) (a:Addr) (u:HO):Prop:=H a=some u\/∃ o,H a=some (.frz o u)
theorem Rd.ok {P:Program} {w:World} {H:Hp} {h:Heap} {a:Addr} {u:HO} (r:Rd H a u) (x:HOk P w H h):ObjOk P w H h a u:=by
 rcases r with r | ⟨o,r⟩
 ·exact x a u r
 ·obtain ⟨_,q⟩:=x a _ r
  exact q
noncomputable def Mut:Option HO->Prop
 | some (.lst _)=>True
 | some (.dK _)=>True
 | some (.dT _)=>True
 | some (.set _ _)=>True
 | some (.ins _ _ _)=>True
 | some (.ext _)=>True
 | _=>False
section
variable {P:Program} {w:World} {H:Hp} {h h':Heap} {x e:Addr} {o':HO}
theorem HOk.write (ok:HOk P w H h) (mu:Mut (H x)) (he:e=x\/H e=some (.own x)) (k:∀ b u,b≠e->h.get? b=some u->h'.get? b=some u) (heo:∃ u,h'.get? e=some u)
  (new:ObjOk P w (upd H x o') h' x o'):HOk P w (upd H x o') h':=fun b u q=>by
 have nown:∀ c y,H c=some (.own y)->c≠x:=fun c y r z=>by subst z; rw [r] at mu; exact mu
 have ntup:∀ c xs,H c=some (.tup xs)->c≠x:=fun c xs r z=>by subst z; rw [r] at mu; exact mu
 by_cases hb:b=x
 ·subst hb; rw [zaf] at q; cases q; exact new
 ·rw [zah hb] at q
  by_cases hbe:b=e
  ·have q':H b=some (.own x):=by
    rcases he with z | z
    ·exact absurd (hbe.trans z) hb
    ·rw [hbe]; exact z
   rw [q] at q'; cases q'
   obtain ⟨v,hv⟩:=heo
   exact ⟨v,by rw [hbe]; exact hv⟩
  ·refine (ok b u q).stay (fun c v hc r=>k c v ?_ r) (fun c r=>by rw [zah (nown c b r)]; exact r) fun c xs r=>by rw [zah (ntup c xs r)]; exact r
   rcases hc with rfl | hc
   ·exact hbe
   ·rintro rfl
    rcases he with z | z
    ·exact nown c b hc z
    ·rw [hc] at z; cases z; exact hb rfl
end
structure Un (fs ex:List Addr) (H H':Hp) (h h':Heap):Prop where
 keep:∀ b o,h.get? b=some o->H b=none->b ∉ fs->b ∉ ex->h'.get? b=some o
 slot:∀ b o,h.get? b=some o->H b=none->b∈fs->b ∉ ex->∃ sl,h'.get? b=some { o with slots:=sl }
 free:∀ b o,h.get? b=some o->H b=none->b ∉ ex->H' b=none
 there:∀ b o,h.get? b=some o->b ∉ ex->∃ o',h'.get? b=some o'
 tups:∀ b xs,H b=some (.tup xs)->H' b=some (.tup xs)
 frzs:∀ b o u,H b=some (.frz o u)->H' b=some (.frz o u)
 tbls:∀ b ps,H b=some (.tbl ps)->∃ more,H' b=some (.tbl (ps ++ more))
section
variable {fs fs' ex ex':List Addr} {H H1 H2:Hp} {h h1 h2 h':Heap} {a x e:Addr} {o:HO}
theorem Un.any (u:Un fs ex H H1 h h1) {b:Addr} {ob:Obj} (q:h.get? b=some ob) (n:H b=none) (hx:b ∉ ex):∃ sl,h1.get? b=some { ob with slots:=sl }:=by
 by_cases hb:b∈fs
 ·exact u.slot b ob q n hb hx
 ·exact ⟨ob.slots,u.keep b ob q n hb hx⟩
theorem Un.trans (a:Un fs ex H H1 h h1) (b:Un fs ex H1 H2 h1 h2):Un fs ex H H2 h h2 where
 keep:=fun c ob q n hc hx=>b.keep c ob (a.keep c ob q n hc hx) (a.free c ob q n hx) hc hx
 slot:=fun c ob q n hc hx=>by
  obtain ⟨sl,e1⟩:=a.slot c ob q n hc hx
  obtain ⟨sl',e2⟩:=b.slot c _ e1 (a.free c ob q n hx) hc hx
  exact ⟨sl',e2⟩
 free:=fun c ob q n hx=>by
  obtain ⟨o',e1⟩:=a.there c ob q hx
  exact b.free c o' e1 (a.free c ob q n hx) hx
 there:=fun c ob q hx=>by
  obtain ⟨o',e1⟩:=a.there c ob q hx
  exact b.there c o' e1 hx
 tups:=fun c xs q=>b.tups c xs (a.tups c xs q)
 frzs:=fun c ob xs q=>b.frzs c ob xs (a.frzs c ob xs q)
 tbls:=fun c ps q=>by
  obtain ⟨m1,e1⟩:=a.tbls c ps q
  obtain ⟨m2,e2⟩:=b.tbls c _ e1
  exact ⟨m1 ++ m2,by rw [e2,Array.append_assoc]⟩
theorem Un.kept (k:∀ b u,h.get? b=some u->h'.get? b=some u):Un fs ex H H h h' :=
 ⟨fun b ob q _ _ _=>k b ob q,fun b ob q _ _ _=>⟨ob.slots,k b ob q⟩,fun _ _ _ n _=>n,fun b ob q _=>⟨ob,k b ob q⟩,fun _ _ q=>q,fun _ _ _ q=>q,fun _ ps q=>⟨#[],by rw [q]; simp⟩⟩
theorem Un.refl:Un fs ex H H h h:=Un.kept fun _ _ q=>q
theorem Un.laid (k:∀ b u,h.get? b=some u->h'.get? b=some u) (hp:h.objs.size<=a) (hn:H a=none):Un fs ex H (upd H a o) h h' where
 keep:=fun b u q _ _ _=>k b u q
 slot:=fun b u q _ _ _=>⟨u.slots,k b u q⟩
 free:=fun b u q n _=>by rw [zah (Nat.ne_of_lt (Nat.lt_of_lt_of_le (Heap.lt_size q) hp))]; exact n
 there:=fun b u q _=>⟨u,k b u q⟩
 tups:=fun b xs q=>by rw [zah (zaq q hn)]; exact q
 frzs:=fun b u xs q=>by rw [zah (zaq q hn)]; exact q
 tbls:=fun b ps q=>⟨#[],by rw [zah (zaq q hn),q]; simp⟩
theorem Un.write (mu:Mut (H x)) (he:e=x\/H e=some (.own x)) (k:∀ b u,b≠e->h.get? b=some u->h'.get? b=some u) (heo:∃ u,h'.get? e=some u):Un fs ex H (upd H x o) h h':=by
 have hx:∀ b,H b=none->b≠x:=fun b n z=>by subst z; rw [n] at mu; exact mu
 have hb:∀ b,H b=none->b≠e:=fun b n z=>by
  subst z
  rcases he with r | r
  ·exact hx b n r
  ·rw [n] at r; cases r
 have hm:∀ b u,H b=some u->¬ Mut (some u)->b≠x:=fun b u q nm z=>by subst z; rw [q] at mu; exact nm mu
 refine ⟨fun b u q n _ _=>k b u (hb b n) q,fun b u q n _ _=>⟨u.slots,k b u (hb b n) q⟩,fun b u q n _=>by rw [zah (hx b n)]; exact n,fun b u q _ => ?_,
  fun b xs q=>by rw [zah (hm b _ q fun z=>z)]; exact q,fun b u xs q=>by rw [zah (hm b _ q fun z=>z)]; exact q,fun b ps q=>⟨#[],by rw [zah (hm b _ q fun z=>z),q]; simp⟩⟩
 by_cases hbe:b=e
 ·subst hbe; exact heo
 ·exact ⟨u,k b u hbe q⟩
end
noncomputable def trk (h:Heap) (H:Hp):List Addr:=(List.range h.objs.size).filter fun a=>(H a).isSome
noncomputable def hidT (h:Heap) (H:Hp):Heap:=PySem.W.hideAll h (trk h H)
theorem hidT_size (h:Heap) (H:Hp):(hidT h H).objs.size=h.objs.size:=PySem.W.hideAll_size _ _
theorem hidT_get {h:Heap} {H:Hp} {b:Addr} {o:Obj} (e:h.get? b=some o) (n:H b=none):(hidT h H).get? b=some o :=
 PySem.W.hideAll_get _ e fun hm=>by
  have q:(H b).isSome=true:=(List.mem_filter.mp hm).2
  rw [n] at q; simp at q
theorem of_hidT {h:Heap} {H:Hp} {b:Addr} {o:Obj} (e:(hidT h H).get? b=some o):h.get? b=some o/\H b=none:=by
 have e':h.get? b=some o:=PySem.W.of_hideAll (trk h H) e
 refine ⟨e',?_⟩
 cases q:H b with
 | none=>rfl
 | some x =>
  have hm:b∈trk h H:=List.mem_filter.mpr ⟨List.mem_range.mpr (Heap.lt_size e'),by simp [q]⟩
  have z:(hidT h H).get? b=none:=PySem.W.hideAll_none (trk h H) hm
  rw [z] at e; cases e
noncomputable def allNews (g h:Heap) (L:Addr):List (Addr×Obj):=(List.range h.objs.size).filterMap fun a=>if a=L\/(g.get? a).isSome=true then none else (h.get? a).map fun o=>(a,o)
noncomputable def rest (g h:Heap) (L d:Addr):List (Addr×Obj):=(allNews g h L).filter fun p=>decide (p.1≠d)
structure Mod (K:W.Frag) (mg:Str->Option Value) (base:Heap):Prop where
 kin:K.In base
 glob:base.Ns mainGlobals mg
 blt:∃ mb,base.Ns builtinsNs mb/\∀ x:Str,x ≠ "__name__" -> mb x=bootBuiltins x
 nolimit:base.NoLimit
structure Cx where
 prog:Program
 w:World
 K:W.Frag
 mg:Str->Option Value
 base:Heap
 A:Around
 N:List Str
 s₀ : Shared
 H₀ : Hp
 env:Env
 outer:List Env
 stack:List Env
 ex:List Addr
 fn:Str->Bool
 calm:Bool
 pn:List (Addr×Obj)
 xe:Value->Shared->Prop
noncomputable def frs (l:List Env):List Addr:=l.filterMap (·.frame)
noncomputable abbrev Cx.fs (X:Cx):List Addr:=frs X.outer
noncomputable def Vis (sc:Scope) (x:Str):Prop:=sc.names.lookup x=some .local\/sc.names.lookup x=some .cell\/sc.names.lookup x=some .free
noncomputable def Loc (sc:Scope) (x:Str):Prop:=sc.names.lookup x=some .local\/sc.names.lookup x=some .cell
noncomputable def Look (env:Env) (h:Heap) (m:Str->Option Value) (x:Str) (u:Value):Prop :=
 (env.kindOf x=some .local/\m x=some u)\/((env.kindOf x=some .cell\/env.kindOf x=some .free)/\∃ c,env.cells.lookup x=some c/\h.IsCell c (some u))
structure Cx.Ok (X:Cx):Prop where
 mod:Mod X.K X.mg X.base
 kind:X.env.scope.kind = .function
 glob:X.env.globals=mainGlobals
 blt:X.env.builtins=builtinsNs
 above:X.s₀.heap.objs.size<=X.env.locals
 inj:∀ x y c,X.env.cells.lookup x=some c->X.env.cells.lookup y=some c->x=y
 has:∀ x,(X.env.kindOf x=some .cell\/X.env.kindOf x=some .free)->∃ c,X.env.cells.lookup x=some c
 cab:∀ x c,X.fn x=true->X.env.cells.lookup x=some c->X.s₀.heap.objs.size<=c
 hd:X.calm=true->X.A.handled=none
 frames:X.A.frames=some X.stack
 stk:X.stack=X.outer\/(X.stack=X.env :: X.outer/\X.env.frame=some X.env.locals)
 exf:∀ b∈X.ex,b≠X.env.locals/\∀ x c,X.env.cells.lookup x=some c->c≠b
 bs:∀ b o,X.base.get? b=some o->X.s₀.heap.get? b=some o/\X.H₀ b=none
 bsz:X.base.objs.size<=X.s₀.heap.objs.size
 noex:∀ b o,X.base.get? b=some o->b ∉ X.ex
 exfs:∀ b∈X.ex,b ∉ X.fs
 funs:X.s₀.heap.FunFrames X.base X.outer
 frf:∀ b∈X.fs,X.H₀ b=none
structure Inv (X:Cx) (pins:List (Addr×Obj)) (σ : List (Option V)) (H:Hp) (s:Shared):Prop where
 ok:X.Ok
 os:s.os=X.s₀.os
 bare:AllBare s.gens
 base:Un X.fs X.ex X.H₀ H X.s₀.heap s.heap
 loc:∃ m,s.heap.Ns X.env.locals m/\∀ (i:Nat) (x:Str) (v:V),X.N[i]?=some x -> σ[i]?=some (some v)->Vis X.env.scope x->∃ u,RelV v u/\Look X.env s.heap m x u
 cell:∀ x c,X.env.cells.lookup x=some c->∃ v,s.heap.IsCell c v
 free:H X.env.locals=none
 freeC:∀ x c,X.env.cells.lookup x=some c->H c=none
 pin:∀ p∈X.pn ++ pins,s.heap.get? p.1=some p.2/\H p.1=none/\p.1≠X.env.locals/\p.1 ∉ X.fs/\∀ v,p.2.data ≠ .cell v
 hok:HOk X.prog X.w H s.heap
 len : σ.length=X.N.length
section
variable {X:Cx} {pins:List (Addr×Obj)} {σ : List (Option V)} {H H':Hp} {s:Shared} {h':Heap}
theorem Cx.Ok.nofr (ok:X.Ok) {b:Addr} {o:Obj} (e:X.base.get? b=some o):b ∉ X.fs:=fun hb=>by
 have:=(ok.funs.mem hb).1
 rw [e] at this; cases this
theorem Inv.bs (I:Inv X pins σ H s):∀ b o,X.base.get? b=some o->s.heap.get? b=some o/\H b=none:=fun b o e =>
 ⟨I.base.keep b o (I.ok.bs b o e).1 (I.ok.bs b o e).2 (I.ok.nofr e) (I.ok.noex b o e),I.base.free b o (I.ok.bs b o e).1 (I.ok.bs b o e).2 (I.ok.noex b o e)⟩
theorem Inv.bk (I:Inv X pins σ H s):∀ b o,X.base.get? b=some o->s.heap.get? b=some o:=fun b o e=>(I.bs b o e).1
theorem Inv.mod (I:Inv X pins σ H s):Mod X.K X.mg X.base:=I.ok.mod
theorem Inv.kIn (I:Inv X pins σ H s):X.K.In s.heap:=I.ok.mod.kin.keeps I.bk
theorem Inv.lt (I:Inv X pins σ H s):X.env.locals < s.heap.objs.size:=let ⟨_,hn,_⟩:=I.loc; hn.lt
theorem Inv.sz (I:Inv X pins σ H s):X.s₀.heap.objs.size<=s.heap.objs.size:=Nat.le_trans I.ok.above (Nat.le_of_lt I.lt)
theorem Inv.nofs (I:Inv X pins σ H s) {a:Addr} (h:s.heap.objs.size<=a):a ∉ X.fs:=fun hb=>by
 obtain ⟨_,o,ho,_⟩:=I.ok.funs.mem hb
 exact absurd (Nat.lt_of_lt_of_le (Heap.lt_size ho) (Nat.le_trans I.sz h)) (Nat.lt_irrefl _)
theorem Inv.cne (I:Inv X pins σ H s):∀ x c,X.env.cells.lookup x=some c->c≠X.env.locals:=fun x c e z=>by
 obtain ⟨v,o,ho,hd⟩:=I.cell x c e
 obtain ⟨m,⟨o',es,ep,ho',hd',_⟩,_⟩:=I.loc
 rw [z,ho'] at ho; cases ho; rw [hd'] at hd; cases hd
theorem Inv.funs (I:Inv X pins σ H s):s.heap.FunFrames X.base X.outer:=by
 have all:∀ (l:List Env),(∀ b∈frs l,b∈X.fs)->X.s₀.heap.FunFrames X.base l->s.heap.FunFrames X.base l:=by
  intro l
  induction l with
  | nil=>intro _ _; trivial
  | cons env r ih =>
   intro hs hl
   obtain ⟨hk,⟨L,o,hf,hn,ho,hd⟩,hr⟩:=hl
   have hL:L∈X.fs:=hs L (by unfold frs; rw [List.filterMap_cons,hf]; exact List.mem_cons_self)
   obtain ⟨sl,e⟩:=I.base.slot L o ho (I.ok.frf L hL) hL fun z=>I.ok.exfs L z hL
   exact ⟨hk,⟨L,_,hf,hn,e,hd⟩,ih (fun b hb=>hs b (by unfold frs; rw [List.filterMap_cons,hf]; exact List.mem_cons_of_mem _ hb)) hr⟩
 exact all X.outer (fun _ hb=>hb) I.ok.funs
theorem Inv.stack (I:Inv X pins σ H s):s.heap.FunFrames X.base X.stack:=by
 rcases I.ok.stk with e | ⟨e,hf⟩
 ·rw [e]; exact I.funs
 ·rw [e]
  obtain ⟨m,hn,_⟩:=I.loc
  refine .cons (by rw [I.ok.kind]; decide) hf hn ?_ I.funs
  exact Heap.get?_none_of_le (Nat.le_trans I.ok.bsz I.ok.above)
theorem Inv.stkSub (I:Inv X pins σ H s):∀ b∈frs X.stack,b∈X.env.locals :: X.fs:=fun b hb=>by
 rcases I.ok.stk with e | ⟨e,hf⟩
 ·rw [e] at hb; exact List.mem_cons_of_mem _ hb
 ·rw [e] at hb
  unfold frs at hb
  rw [List.filterMap_cons,hf] at hb
  exact hb
theorem Inv.stkFree (I:Inv X pins σ H s):∀ b∈frs X.stack,H b=none:=fun b hb=>by
 rcases List.mem_cons.mp (I.stkSub b hb) with e | hb
 ·rw [e]; exact I.free
 ·obtain ⟨_,o,ho,_⟩:=I.ok.funs.mem hb
  exact I.base.free b o ho (I.ok.frf b hb) fun z=>I.ok.exfs b z hb
theorem Inv.step {g':Array GenState} {t':Nat} {d':Drawn} {ch:List Addr} (I:Inv X pins σ H s)
  (hch:∀ b∈ch,(b∈X.ex\/X.s₀.heap.objs.size<=b)/\b≠X.env.locals/\(∀ x c,X.env.cells.lookup x=some c->c≠b)/\∀ p∈X.pn ++ pins,p.1≠b)
  (keep:∀ b o,b≠X.env.locals->b ∉ X.fs->b ∉ ch->s.heap.get? b=some o->H b=none->h'.get? b=some o)
  (slot:∀ b o,b≠X.env.locals->b∈X.fs->b ∉ ch->s.heap.get? b=some o->H b=none->∃ sl,h'.get? b=some { o with slots:=sl }) (free:∀ b o,b ∉ ch->s.heap.get? b=some o->H b=none->H' b=none)
  (there:∀ b o,b ∉ ch->s.heap.get? b=some o->∃ o',h'.get? b=some o')
  (tups:∀ b xs,H b=some (.tup xs)->H' b=some (.tup xs)) (frzs:∀ b o u,H b=some (.frz o u)->H' b=some (.frz o u)) (tbls:∀ b ps,H b=some (.tbl ps)->∃ more,H' b=some (.tbl (ps ++ more)))
  (ns:∀ m,s.heap.Ns X.env.locals m->h'.Ns X.env.locals m) (hok:HOk X.prog X.w H' h') (hg:AllBare g') :
  Inv X pins σ H' { s with heap:=h',gens:=g',drawn:=d',toks:=t' }:=by
 have neL:∀ b o,X.s₀.heap.get? b=some o->b≠X.env.locals:=fun b o e=>Nat.ne_of_lt (Nat.lt_of_lt_of_le (Heap.lt_size e) I.ok.above)
 have neC:∀ b o,X.s₀.heap.get? b=some o->b ∉ X.ex->b ∉ ch:=fun b o e hx hb=>by
  rcases (hch b hb).1 with z | z
  ·exact hx z
  ·exact absurd (Nat.lt_of_lt_of_le (Heap.lt_size e) z) (Nat.lt_irrefl _)
 have cellK:∀ x c,X.env.cells.lookup x=some c->∀ v,s.heap.IsCell c v->h'.IsCell c v:=fun x c e v ⟨o,ho,hd⟩=>by
  have nch:c ∉ ch:=fun z=>(hch c z).2.2.1 x c e rfl
  by_cases hc:c∈X.fs
  ·obtain ⟨sl,q⟩:=slot c o (I.cne x c e) hc nch ho (I.freeC x c e)
   exact ⟨_,q,hd⟩
  ·exact ⟨o,keep c o (I.cne x c e) hc nch ho (I.freeC x c e),hd⟩
 refine ⟨I.ok,I.os,hg,⟨fun b o e n hb hx => ?_,fun b o e n hb hx => ?_,fun b o e n hx => ?_,fun b o e hx => ?_,fun b xs e=>tups b xs (I.base.tups b xs e),fun b o xs e=>frzs b o xs (I.base.frzs b o xs e),fun b ps e => ?_⟩,?_,fun x c e => ?_,?_,fun x c e => ?_,fun p hp => ?_,hok,I.len⟩
 ·exact keep b o (neL b o e) hb (neC b o e hx) (I.base.keep b o e n hb hx) (I.base.free b o e n hx)
 ·obtain ⟨sl,e1⟩:=I.base.slot b o e n hb hx
  obtain ⟨sl',e2⟩:=slot b _ (neL b o e) hb (neC b o e hx) e1 (I.base.free b o e n hx)
  exact ⟨sl',e2⟩
 ·obtain ⟨o',e1⟩:=I.base.there b o e hx
  exact free b o' (neC b o e hx) e1 (I.base.free b o e n hx)
 ·obtain ⟨o',e1⟩:=I.base.there b o e hx
  exact there b o' (neC b o e hx) e1
 ·obtain ⟨m1,e1⟩:=I.base.tbls b ps e
  obtain ⟨m2,e2⟩:=tbls b _ e1
  exact ⟨m1 ++ m2,by rw [e2,Array.append_assoc]⟩
 ·obtain ⟨m,hn,hl⟩:=I.loc
  refine ⟨m,ns m hn,fun i x v e1 e2 e3 => ?_⟩
  obtain ⟨u,r,l⟩:=hl i x v e1 e2 e3
  refine ⟨u,r,?_⟩
  rcases l with l | ⟨k,c,e,z⟩
  ·exact .inl l
  ·exact .inr ⟨k,c,e,cellK x c e _ z⟩
 ·obtain ⟨v,z⟩:=I.cell x c e
  exact ⟨v,cellK x c e v z⟩
 ·obtain ⟨m,⟨o,_,_,ho,_⟩,_⟩:=I.loc
  exact free _ o (fun z=>(hch _ z).2.1 rfl) ho I.free
 ·obtain ⟨v,o,ho,hd⟩:=I.cell x c e
  exact free c o (fun z=>(hch c z).2.2.1 x c e rfl) ho (I.freeC x c e)
 ·obtain ⟨e,n,ne,nf,d⟩:=I.pin p hp
  have nch:p.1 ∉ ch:=fun z=>(hch p.1 z).2.2.2 p hp rfl
  exact ⟨keep p.1 p.2 ne nf nch e n,free p.1 p.2 nch e n,ne,nf,d⟩
theorem Inv.un {t':Nat} (I:Inv X pins σ H s) (u:Un X.fs [] H H' s.heap h') (hok:HOk X.prog X.w H' h'):Inv X pins σ H' { s with heap:=h',toks:=t' }:=by
 obtain ⟨m,⟨o,es,ep,ho,r⟩,_⟩:=id I.loc
 obtain ⟨sl,hL⟩:=u.any ho I.free (by simp)
 exact I.step (g':=s.gens) (d':=s.drawn) (ch := []) (fun _ z=>nomatch z) (fun b o _ hb _ e n=>u.keep b o e n hb (by simp)) (fun b o _ hb _ e n=>u.slot b o e n hb (by simp)) (fun b o _ e n=>u.free b o e n (by simp)) (fun b o _ e=>u.there b o e (by simp)) u.tups u.frzs u.tbls (fun m' hm=>by
  obtain ⟨o',es',ep',ho',r'⟩:=hm
  rw [ho] at ho'; cases ho'
  exact ⟨_,es',ep',hL,r'⟩) hok I.bare
theorem Inv.call {g':Array GenState} {t':Nat} {d':Drawn} {ch:List Addr} (I:Inv X pins σ H s) (u:Un (frs X.stack) ch H H' s.heap h') (hok:HOk X.prog X.w H' h') (hg:AllBare g')
  (hch:∀ b∈ch,(b∈X.ex\/X.s₀.heap.objs.size<=b)/\b≠X.env.locals/\(∀ x c,X.env.cells.lookup x=some c->c≠b)/\∀ p∈X.pn ++ pins,p.1≠b) :
  Inv X pins σ H' { s with heap:=h',gens:=g',drawn:=d',toks:=t' }:=by
 obtain ⟨m,⟨o,es,ep,ho,r⟩,_⟩:=id I.loc
 obtain ⟨sl,hL⟩:=u.any ho I.free fun z=>(hch _ z).2.1 rfl
 exact I.step (ch:=ch) hch (fun b o hL hb hc e n=>u.keep b o e n (fun z=>(List.mem_cons.mp (I.stkSub b z)).elim hL hb) hc) (fun b o _ _ hc e n=>u.any e n hc) (fun b o hc e n=>u.free b o e n hc) (fun b o hc e=>u.there b o e hc) u.tups u.frzs u.tbls (fun m' hm=>by
  obtain ⟨o',es',ep',ho',r'⟩:=hm
  rw [ho] at ho'; cases ho'
  exact ⟨_,es',ep',hL,r'⟩) hok hg
theorem Inv.turned {t':Nat} {it:Addr} (I:Inv X pins σ H s) (k:∀ b o,b≠it->s.heap.get? b=some o->h'.get? b=some o) (hn:H it=none) (hL:it≠X.env.locals)
  (h1:it∈X.ex\/X.s₀.heap.objs.size<=it) (h2:∀ x c,X.env.cells.lookup x=some c->c≠it) (h3:∀ p∈X.pn ++ pins,p.1≠it):Inv X pins σ H { s with heap:=h',toks:=t' }:=by
 have nit:∀ b u,H b=some u->b≠it:=fun b u e z=>by rw [z,hn] at e; cases e
 refine I.step (g':=s.gens) (d':=s.drawn) (ch := [it]) (fun b hb => ?_) (fun b o _ _ hc e _=>k b o (fun z=>hc (by simp [z])) e) (fun b o _ _ hc e _=>⟨o.slots,k b o (fun z=>hc (by simp [z])) e⟩) (fun _ _ _ _ n=>n)
  (fun b o hc e=>⟨o,k b o (fun z=>hc (by simp [z])) e⟩) (fun _ _ e=>e) (fun _ _ _ e=>e) (fun b ps e=>⟨#[],by rw [e]; simp⟩) (fun m hm => ?_) (fun b u e => ?_) I.bare
 ·have e:b=it:=by simpa using hb
  subst e
  exact ⟨h1,hL,h2,h3⟩
 ·obtain ⟨o,es,ep,ho,r⟩:=hm
  exact ⟨o,es,ep,k _ o (Ne.symm hL) ho,r⟩
 ·refine (I.hok b u e).stay (fun c v hc q=>k c v ?_ q) (fun _ q=>q) fun _ _ q=>q
  rcases hc with z | z
  ·rw [z]; exact nit b u e
  ·exact nit c _ z
theorem Inv.tok (I:Inv X pins σ H s) (t:Nat):Inv X pins σ H { s with toks:=t }:=I.un (h':=s.heap) (t':=t) Un.refl I.hok
theorem Inv.kept {t':Nat} (I:Inv X pins σ H s) (k:∀ b u,s.heap.get? b=some u->h'.get? b=some u):Inv X pins σ H { s with heap:=h',toks:=t' }:=I.un (Un.kept k) (I.hok.kept k)
theorem Inv.laid {a:Addr} {o:HO} {t':Nat} (I:Inv X pins σ H s) (k:∀ b u,s.heap.get? b=some u->h'.get? b=some u) (hp:s.heap.objs.size<=a) (new:ObjOk X.prog X.w (upd H a o) h' a o) :
  Inv X pins σ (upd H a o) { s with heap:=h',toks:=t' }:=I.un (Un.laid k hp (I.hok.fresh hp)) (I.hok.laid k hp new)
theorem Inv.write {x e:Addr} {o:HO} {t':Nat} (I:Inv X pins σ H s) (mu:Mut (H x)) (he:e=x\/H e=some (.own x)) (k:∀ b u,b≠e->s.heap.get? b=some u->h'.get? b=some u) (heo:∃ u,h'.get? e=some u)
  (new:ObjOk X.prog X.w (upd H x o) h' x o):Inv X pins σ (upd H x o) { s with heap:=h',toks:=t' }:=I.un (Un.write mu he k heo) (I.hok.write mu he k heo new)
theorem Inv.weak {σ':List (Option V)} (I:Inv X pins σ H s) (hl : σ'.length = σ.length) (w:∀ (i:Nat) v,σ'[i]?=some (some v) -> σ[i]?=some (some v)):Inv X pins σ' H s :=
 ⟨I.ok,I.os,I.bare,I.base,let ⟨m,hn,hl'⟩:=I.loc; ⟨m,hn,fun i x v e1 e2 e3=>hl' i x v e1 (w i v e2) e3⟩,I.cell,I.free,I.freeC,I.pin,I.hok,hl.trans I.len⟩
theorem Inv.pins_of {pins':List (Addr×Obj)} (I:Inv X pins σ H s) (h:∀ p∈pins',s.heap.get? p.1=some p.2/\H p.1=none/\p.1≠X.env.locals/\p.1 ∉ X.fs/\∀ v,p.2.data ≠ .cell v):Inv X pins' σ H s :=
 ⟨I.ok,I.os,I.bare,I.base,I.loc,I.cell,I.free,I.freeC,fun p hp=>(List.mem_append.mp hp).elim (fun z=>I.pin p (List.mem_append_left _ z)) (h p),I.hok,I.len⟩
theorem zfC {N:List Str} (hN:N.Nodup) {i j:Nat} {x:Str} (a:N[i]?=some x) (b:N[j]?=some x):i=j:=by
 obtain ⟨h1,e1⟩:=List.getElem?_eq_some_iff.mp a
 obtain ⟨h2,e2⟩:=List.getElem?_eq_some_iff.mp b
 exact (List.getElem_inj hN).mp (e1.trans e2.symm)
theorem zep {M:Model} {A:Around} {E:Value->Shared->Prop} {i:Nat} {x:Str} {v:V} {u:Value} {Q:Unit->Shared->Prop} (I:Inv X pins σ H s) (hN:X.N.Nodup) (hi:X.N[i]?=some x) (hx:Loc X.env.scope x) (r:RelV v u)
  (h:∀ s',Inv X pins (σ.set i (some v)) H s'->(∃ a,Heap.SameBut a s.heap s'.heap/\(a=X.env.locals\/X.env.cells.lookup x=some a))->Q () s') (hf:X.fn x=true\/X.env.scope.names.lookup x=some .local:=by first | exact .inl rfl | exact .inr rfl | assumption):wpAny M A (storeName X.env x u) Q E s:=by
 obtain ⟨m,hn,hl⟩:=id I.loc
 have hcls:(X.env.scope.kind == .class || (X.env.scope.kind == .module && X.env.locals != X.env.globals))=false:=by rw [I.ok.kind]; rfl
 have hiσ : i < σ.length:=by rw [I.len]; exact (List.getElem?_eq_some_iff.mp hi).1
 have cne:=I.cne
 have tracked:∀ {a:Addr} {h':Heap},(∃ o,s.heap.get? a=some o/\H a=none)->Heap.SameBut a s.heap h'->HOk X.prog X.w H h':=fun {a h'} ha hs b ob e=>by
  obtain ⟨_,_,hfree⟩:=ha
  refine (I.hok b ob e).stay (fun c w' hc q=>(hs.2 c ?_).trans q) (fun _ q=>q) fun _ _ q=>q
  rintro rfl
  rcases hc with rfl | hc
  ·rw [hfree] at e; cases e
  ·rw [hfree] at hc; cases hc
 rcases hx with hk | hk
 ·refine wpAny_storeName_local hk hn (fun h' hn' hs => ?_) hcls
  obtain ⟨oL,_,_,hoL,_⟩:=id hn
  refine h _ ⟨I.ok,I.os,I.bare,⟨fun b o e n hb hx => ?_,fun b o e n hb hx => ?_,I.base.free,fun b o e hx => ?_,I.base.tups,I.base.frzs,I.base.tbls⟩,⟨_,hn',fun j y v' e1 e2 e3 => ?_⟩,fun y c e => ?_,I.free,I.freeC,fun p hp => ?_,tracked ⟨oL,hoL,I.free⟩ hs,by simpa using I.len⟩ ⟨_,hs,.inl rfl⟩
  ·exact (hs.2 b (Nat.ne_of_lt (Nat.lt_of_lt_of_le (Heap.lt_size e) I.ok.above))).trans (I.base.keep b o e n hb hx)
  ·obtain ⟨sl,e1⟩:=I.base.slot b o e n hb hx
   exact ⟨sl,(hs.2 b (Nat.ne_of_lt (Nat.lt_of_lt_of_le (Heap.lt_size e) I.ok.above))).trans e1⟩
  ·obtain ⟨o',e1⟩:=I.base.there b o e hx
   exact ⟨o',(hs.2 b (Nat.ne_of_lt (Nat.lt_of_lt_of_le (Heap.lt_size e) I.ok.above))).trans e1⟩
  ·by_cases hj:j=i
   ·subst hj
    rw [hi] at e1; cases e1
    rw [List.getElem?_set_self hiσ] at e2
    cases e2
    exact ⟨u,r,.inl ⟨hk,by simp⟩⟩
   ·rw [List.getElem?_set_ne (Ne.symm hj)] at e2
    obtain ⟨u',r',q⟩:=hl j y v' e1 e2 e3
    refine ⟨u',r',?_⟩
    rcases q with ⟨k,e⟩ | ⟨k,c,e,z⟩
    ·refine .inl ⟨k,?_⟩
     have:y≠x:=fun e=>hj (zfC hN e1 (e ▸ hi))
     simp [this,e]
    ·exact .inr ⟨k,c,e,z.sameBut hs (cne y c e)⟩
  ·obtain ⟨w',z⟩:=I.cell y c e
   exact ⟨w',z.sameBut hs (cne y c e)⟩
  ·obtain ⟨e,n,ne,nf,d⟩:=I.pin p hp
   exact ⟨(hs.2 p.1 ne).trans e,n,ne,nf,d⟩
 ·have hfn:X.fn x=true:=by
   rcases hf with z | z
   ·exact z
   ·rw [z] at hk; cases hk
  obtain ⟨c,hc⟩:=I.ok.has x (.inl hk)
  obtain ⟨w',z⟩:=I.cell x c hc
  refine wpAny_storeName_cell I.ok.kind hk hc z (fun h' hc' hs => ?_)
  obtain ⟨oc,hoc,hocd⟩:=id z
  refine h { s with heap:=h' } ⟨I.ok,I.os,I.bare,⟨fun b o e n hb hx => ?_,fun b o e n hb hx => ?_,I.base.free,fun b o e hx => ?_,I.base.tups,I.base.frzs,I.base.tbls⟩,⟨m,hn.sameBut hs (Ne.symm (cne x c hc)),fun j y v' e1 e2 e3 => ?_⟩,fun y c' e => ?_,I.free,I.freeC,fun p hp => ?_,tracked ⟨oc,hoc,I.freeC x c hc⟩ hs,by simpa using I.len⟩ ⟨c,hs,.inr hc⟩
  ·exact (hs.2 b (Nat.ne_of_lt (Nat.lt_of_lt_of_le (Heap.lt_size e) (I.ok.cab x c hfn hc)))).trans (I.base.keep b o e n hb hx)
  ·obtain ⟨sl,e1⟩:=I.base.slot b o e n hb hx
   exact ⟨sl,(hs.2 b (Nat.ne_of_lt (Nat.lt_of_lt_of_le (Heap.lt_size e) (I.ok.cab x c hfn hc)))).trans e1⟩
  ·obtain ⟨o',e1⟩:=I.base.there b o e hx
   exact ⟨o',(hs.2 b (Nat.ne_of_lt (Nat.lt_of_lt_of_le (Heap.lt_size e) (I.ok.cab x c hfn hc)))).trans e1⟩
  ·by_cases hj:j=i
   ·subst hj
    rw [hi] at e1; cases e1
    rw [List.getElem?_set_self hiσ] at e2
    cases e2
    exact ⟨u,r,.inr ⟨.inl hk,c,hc,hc'⟩⟩
   ·rw [List.getElem?_set_ne (Ne.symm hj)] at e2
    obtain ⟨u',r',q⟩:=hl j y v' e1 e2 e3
    refine ⟨u',r',?_⟩
    rcases q with q | ⟨k,c',e,z'⟩
    ·exact .inl q
    ·refine .inr ⟨k,c',e,z'.sameBut hs ?_⟩
     rintro rfl
     exact hj (zfC hN e1 (I.ok.inj _ _ _ e hc ▸ hi))
  ·by_cases hcc:c'=c
   ·subst hcc; exact ⟨_,hc'⟩
   ·obtain ⟨w2,z2⟩:=I.cell y c' e
    exact ⟨w2,z2.sameBut hs hcc⟩
  ·obtain ⟨e,n,ne,nf,d⟩:=I.pin p hp
   refine ⟨(hs.2 p.1 ?_).trans e,n,ne,nf,d⟩
   intro q
   rw [q,hoc] at e
   have q':oc=p.2:=Option.some.inj e
   exact d w' (by rw [<- q']; exact hocd)
theorem zdW {M:Model} {A:Around} {E:Value->Shared->Prop} {i:Nat} {x:Str} {v:V} {u:Value} {Q:Unit->Shared->Prop} (I:Inv X pins σ H s) (hN:X.N.Nodup) (hi:X.N[i]?=some x) (hx:Loc X.env.scope x) (r:RelV v u)
  (h:∀ s',Inv X pins (σ.set i (some v)) H s'->Q () s') (hf:X.fn x=true\/X.env.scope.names.lookup x=some .local:=by first | exact .inl rfl | exact .inr rfl | assumption):wpAny M A (storeName X.env x u) Q E s :=
 zep I hN hi hx r (fun s' I' _=>h s' I') hf
theorem Inv.call' {s':Shared} {ch:List Addr} (I:Inv X pins σ H s) (ho:s'.os=s.os) (u:Un (frs X.stack) ch H H' s.heap s'.heap) (hok:HOk X.prog X.w H' s'.heap) (hg:AllBare s'.gens)
  (hch:∀ b∈ch,(b∈X.ex\/X.s₀.heap.objs.size<=b)/\b≠X.env.locals/\(∀ x c,X.env.cells.lookup x=some c->c≠b)/\∀ p∈X.pn ++ pins,p.1≠b):Inv X pins σ H' s':=by
 obtain ⟨h',g',d',t',o'⟩:=s'
 have e:o'=s.os:=ho
 subst e
 exact I.call (g':=g') (t':=t') (d':=d') u hok hg hch
end
noncomputable abbrev XK:=Value->Option Addr->Hp->Prop
noncomputable abbrev St:=List (Option V)
noncomputable abbrev VK:=V->Hp->Prop
noncomputable abbrev TE:=St->Hp->VK->Prop
noncomputable abbrev TT:=St->Hp->(Bool->Hp->Prop)->Prop
noncomputable abbrev TA:=St->Hp->(List V->Hp->Prop)->Prop
structure Ends where
 nx:St->Hp->Prop
 rt:VK
 bk:St->Hp->Prop:=fun _ _=>False
 ct:St->Hp->Prop:=fun _ _=>False
noncomputable abbrev TS:=Ends->St->Hp->Prop
noncomputable def EP (X:Cx) (pins:List (Addr×Obj)) (σ : St) (Q:VK) (u:Value) (s':Shared):Prop:=∃ v H',Inv X pins σ H' s'/\RelV v u/\Q v H'
noncomputable def TP (X:Cx) (pins:List (Addr×Obj)) (σ : St) (Q:Bool->Hp->Prop) (b:Bool) (s':Shared):Prop:=∃ H',Inv X pins σ H' s'/\Q b H'
noncomputable def AP (X:Cx) (pins:List (Addr×Obj)) (σ : St) (Q:List V->Hp->Prop) (us:List Value) (s':Shared):Prop:=∃ vs H',Inv X pins σ H' s'/\Vals vs us/\Q vs H'
noncomputable def SP (X:Cx) (pins:List (Addr×Obj)) (D:Ends) (f:Flow) (s':Shared):Prop :=
 match f with
 | .next=>∃ σ' H',Inv X pins σ' H' s'/\D.nx σ' H'
 | .brk=>∃ σ' H',Inv X pins σ' H' s'/\D.bk σ' H'
 | .cont=>∃ σ' H',Inv X pins σ' H' s'/\D.ct σ' H'
 | .ret u=>∃ v σ' H',Inv X pins σ' H' s'/\RelV v u/\D.rt v H'
noncomputable def PE (X:Cx) (e:Expr) (t:TE):Prop :=
 ∀ (pins:List (Addr×Obj)) (s:Shared) (σ : St) (H:Hp) (Q:VK),Inv X pins σ H s->t σ H Q->wpAny (model X.prog X.w) X.A (eval e X.env) (EP X pins σ Q) X.xe s
noncomputable def PT (X:Cx) (e:Expr) (t:TT):Prop :=
 ∀ (pins:List (Addr×Obj)) (s:Shared) (σ : St) (H:Hp) (Q:Bool->Hp->Prop),Inv X pins σ H s->t σ H Q->wpAny (model X.prog X.w) X.A (isTrue e X.env (eval e X.env)) (TP X pins σ Q) X.xe s
noncomputable def PW (X:Cx) (e:Expr) (t:TT):Prop :=
 ∀ (whole:Sem Value) (pins:List (Addr×Obj)) (s:Shared) (σ : St) (H:Hp) (Q:Bool->Hp->Prop),Inv X pins σ H s->t σ H Q->wpAny (model X.prog X.w) X.A (isTrue e X.env whole) (TP X pins σ Q) X.xe s
theorem PW.pt {X:Cx} {e:Expr} {t:TT} (h:PW X e t):PT X e t:=h _
noncomputable def PA (X:Cx) (es:List Expr) (t:TA):Prop :=
 ∀ (pos:Pos) (pins:List (Addr×Obj)) (s:Shared) (σ : St) (H:Hp) (Q:List V->Hp->Prop),Inv X pins σ H s->t σ H Q->wpAny (model X.prog X.w) X.A (spliced (backTo pos (starEach es X.env))) (AP X pins σ Q) X.xe s
noncomputable def PS (X:Cx) (st:Stmt) (t:TS):Prop :=
 ∀ (pins:List (Addr×Obj)) (s:Shared) (σ : St) (H:Hp) (D:Ends),Inv X pins σ H s->t D σ H->wpAny (model X.prog X.w) X.A (exec st X.env) (SP X pins D) X.xe s
noncomputable def PSs (X:Cx) (st:List Stmt) (t:TS):Prop :=
 ∀ (pins:List (Addr×Obj)) (s:Shared) (σ : St) (H:Hp) (D:Ends),Inv X pins σ H s->t D σ H->wpAny (model X.prog X.w) X.A (execs st X.env) (SP X pins D) X.xe s
theorem thn {α : Type} {t:Sem α} {Q Q' : α -> Shared->Prop} {M:Model} {A:Around} {E:Value->Shared->Prop} {s:Shared} (h:wpAny M A t Q E s) (hQ:∀ a s,Q a s->Q' a s):wpAny M A t Q' E s:=wpAny_mono h hQ fun _ _ x=>x
theorem thnE {α β : Type} {Rl : β -> α -> Prop} {X:Cx} {pins:List (Addr×Obj)} {σ : St} {R : β -> Hp->Prop} {t:Sem α} {Q' : α -> Shared->Prop} {M:Model} {A:Around} {E:Value->Shared->Prop} {s:Shared} (h:wpAny M A t (fun u s'=>∃ v H',Inv X pins σ H' s'/\Rl v u/\R v H') E s) (k:∀ u s' v H',Inv X pins σ H' s'->Rl v u->R v H'->Q' u s'):wpAny M A t Q' E s:=wpAny_mono h (fun u s' z=>by
 obtain ⟨v,H',I,r,q⟩:=z
 exact k u s' v H' I r q) fun _ _ x=>x
section
variable {X:Cx}
noncomputable def tVar (i:Nat):TE:=fun σ H Q=>∃ v,σ[i]?=some (some v)/\Q v H
noncomputable def tC (v:V):TE:=fun _ H Q=>Q v H
theorem pe_var {i:Nat} {x:Str} {pos:Pos} (hN:X.N[i]?=some x) (hv:Vis X.env.scope x) (hd:(x == ("__debug__" : Str))=false:=by decide) (hcd:(x == ("__classdict__" : Str))=false:=by decide):PE X (.Name x pos) (tVar i):=by
 intro pins s σ H Q I h
 obtain ⟨v,e,h⟩:=h
 obtain ⟨m,hn,hl⟩:=I.loc
 obtain ⟨u,r,l⟩:=hl i x v hN e hv
 have fin:EP X pins σ Q u s:=⟨v,H,I,r,h⟩
 rcases l with ⟨hk,hm⟩ | ⟨hk,c,hc,hcell⟩
 ·exact wpAny_Name (wpAny_loadName_local I.ok.kind hk hn hm fin) hd
 ·rcases hk with hk | hk
  ·exact wpAny_Name (wpAny_loadName_cell I.ok.kind hk hc hcell fin) hd
  ·exact wpAny_Name (wpAny_loadName_free I.ok.kind hk hc hcell fin hcd) hd
theorem zab {i j pos}:PE X (.Constant (.int i) j pos) (tC (.int i)):=fun _ _ _ H _ I h=>wpAny_Constant_int ⟨.int i,H,I.tok _,⟨_,rfl⟩,h⟩
theorem zb5 {b j pos}:PE X (.Constant (.bool b) j pos) (tC (.bl b)):=fun _ _ _ H _ I h=>Constant_bool ⟨.bl b,H,I,rfl,h⟩
theorem zas {x j pos}:PE X (.Constant (.str x) j pos) (tC (.str x)):=fun _ _ _ H _ I h=>Calls.Constant_str ⟨.str x,H,I.tok _,⟨_,rfl⟩,h⟩
noncomputable def Gl (X:Cx) (x:Str):Prop:=X.env.kindOf x=some .globalImplicit
theorem zcJ {E:Value->Shared->Prop} {pins:List (Addr×Obj)} {s:Shared} {σ : St} {H:Hp} {x:Str} {u:Value} {pos:Pos} {Q:Value->Shared->Prop} (I:Inv X pins σ H s) (hg:Gl X x) (hm:X.mg x=some u) (h:Q u s)
  (hd:(x == ("__debug__" : Str))=false:=by decide):wpAny (model X.prog X.w) X.A (eval (.Name x pos) X.env) Q E s :=
 Calls.Name_function_global I.ok.kind hg (Calls.loadGlobal_global (by rw [I.ok.glob]; exact I.mod.glob.keeps I.bk) hm h) hd
theorem zdH {E:Value->Shared->Prop} {pins:List (Addr×Obj)} {s:Shared} {σ : St} {H:Hp} {x:Str} {u:Value} {pos:Pos} {Q:Value->Shared->Prop} (I:Inv X pins σ H s) (hg:Gl X x) (hm:X.mg x=none) (hv:bootBuiltins x=some u) (h:Q u s)
  (hn:x ≠ "__name__" := by decide) (hd:(x == ("__debug__" : Str))=false:=by decide):wpAny (model X.prog X.w) X.A (eval (.Name x pos) X.env) Q E s:=by
 obtain ⟨mb,h1,h2⟩:=I.mod.blt
 exact Calls.Name_function_global I.ok.kind hg (Calls.loadGlobal_builtin (by rw [I.ok.glob]; exact I.mod.glob.keeps I.bk) hm (by rw [I.ok.blt]; exact h1.keeps I.bk) ((h2 x hn).trans hv) h) hd
theorem zgh {x:Str} {v:V} {u:Value} {pos:Pos} (hg:Gl X x) (hm:X.mg x=some u) (r:RelV v u) (hd:(x == ("__debug__" : Str))=false:=by decide):PE X (.Name x pos) (tC v) :=
 fun _ _ _ H _ I h=>zcJ I hg hm ⟨v,H,I,r,h⟩ hd
theorem zbX {x:Str} {v:V} {u:Value} {pos:Pos} (hg:Gl X x) (hm:X.mg x=none) (hv:bootBuiltins x=some u) (r:RelV v u) (hn:x ≠ "__name__" := by decide) (hd:(x == ("__debug__" : Str))=false:=by decide):PE X (.Name x pos) (tC v) :=
 fun _ _ _ H _ I h=>zdH I hg hm hv ⟨v,H,I,r,h⟩ hn hd
variable {a b:Expr} {ta tb:TE} {pos:Pos}
noncomputable def PC (X:Cx) (op:CmpOp) (a b:Expr) (t:TE):Prop :=
 ∀ (pins:List (Addr×Obj)) (s:Shared) (σ : St) (H:Hp) (Q:VK),Inv X pins σ H s->t σ H Q ->
  wpAny (model X.prog X.w) X.A (eval a X.env) (fun v s₁ => wpAny (model X.prog X.w) X.A (eval b X.env) (fun u s₂ => wpAny (model X.prog X.w) X.A (compareOp op v u) (EP X pins σ Q) X.xe s₂) X.xe s₁) X.xe s
noncomputable def tB (t:TE):TT:=fun σ H Q=>t σ H fun x H1=>∃ c,x = .bl c/\Q c H1
theorem pe_cmp {op:CmpOp} {t:TE} (h:PC X op a b t) (h1:behindInMarks op b=false:=by first | exact nobehind _ (by decide) (by decide) | rfl):PE X (.Compare a [op] [b] pos) t:=fun pins s σ H Q I hw=>wpAny_Compare1 (h pins s σ H Q I hw) h1
theorem zgb {op:CmpOp} {t:TE} (h:PC X op a b t) (h1:behindInMarks op b=false:=by first | exact nobehind _ (by decide) (by decide) | rfl):PT X (.Compare a [op] [b] pos) (tB t):=by
 intro pins s σ H Q I hw
 refine wpAny_isTrue_Compare1 (thn (h pins s σ H _ I hw) fun v s1 h1=>thn h1 fun u s2 h2=>thn h2 fun c s3 ⟨x,H1,I1,r1,q1⟩ => ?_) h1
 obtain ⟨d,rfl,q⟩:=q1
 cases r1
 exact wpAny_truthy_bool ⟨H1,I1,q⟩
theorem zbQ {e:Expr} {t:TE} (h:PE X e t) (he:∀ whole,isTrue e X.env whole=(do let v <- whole; standAt e.pos; holding [v] (truthy v)):=by intro _; rfl):PT X e (tB t):=by
 intro pins s σ H Q I hw
 refine isTrue_plain (thnE (h pins s σ H _ I hw) fun v s1 x H1 I1 r1 q1 => ?_) (he _)
 obtain ⟨d,rfl,q⟩:=q1
 cases r1
 exact wpAny_truthy_bool ⟨H1,I1,q⟩
variable {tA tB':TT} {rest:List Expr}
noncomputable def tOr (t u:TT):TT:=fun σ H Q=>t σ H fun c H1=>if c=true then Q true H1 else u σ H1 Q
noncomputable def tNot (t:TT):TT:=fun σ H Q=>t σ H fun c H1=>Q (!c) H1
theorem zfw (ha:PT X a tA):PW X (.BoolOp .Or [a] pos) tA:=by
 intro wh pins s σ H Q I h
 refine isTrue_or (thn (ha pins s σ H Q I h) fun c s1 e => ?_)
 cases c with
 | false=>exact isTrue_or_nil e
 | true=>exact e
theorem zfS (ha:PT X a tA) (hb:PW X (.BoolOp .Or (b :: rest) pos) tB'):PW X (.BoolOp .Or (a :: b :: rest) pos) (tOr tA tB'):=by
 intro wh pins s σ H Q I h
 refine isTrue_or (thn (ha pins s σ H _ I h) fun c s1 ⟨H1,I1,q1⟩ => ?_)
 cases c with
 | true=>exact ⟨H1,I1,q1⟩
 | false=>exact hb wh pins s1 σ H1 Q I1 q1
theorem zbn (ha:PT X a tA):PT X (.UnaryOp .Not a pos) (tNot tA):=by
 intro pins s σ H Q I h
 exact isTrue_not (ha pins s σ H (fun c H1=>Q (!c) H1) I h)
noncomputable def tAndV (ta tb:TE):TE:=fun σ H Q=>ta σ H fun x H1=>∃ c,x = .bl c/\if c=true then tb σ H1 Q else Q (.bl false) H1
noncomputable def tNotV (ta:TE):TE:=fun σ H Q=>ta σ H fun x H1=>∃ c,x = .bl c/\Q (.bl (!c)) H1
theorem zet {op} {t:TE} (h:PE X a t):PE X (.BoolOp op [a] pos) t:=fun pins s σ H Q I hw=>BoolOp_one (h pins s σ H Q I hw)
theorem zdF (ha:PE X a ta) (hb:PE X (.BoolOp .And (b :: rest) pos) tb):PE X (.BoolOp .And (a :: b :: rest) pos) (tAndV ta tb):=by
 intro pins s σ H Q I h
 refine BoolOp_and (thnE (ha pins s σ H _ I h) fun v s1 x H1 I1 r1 q1 => ?_)
 obtain ⟨c,rfl,q1⟩:=q1
 cases r1
 refine wpAny_truthy_bool ?_
 cases c with
 | true=>exact hb pins s1 σ H1 Q I1 q1
 | false=>exact ⟨.bl false,H1,I1,rfl,q1⟩
theorem pe_not (ha:PE X a ta):PE X (.UnaryOp .Not a pos) (tNotV ta):=by
 intro pins s σ H Q I h
 refine UnaryOp_ (thnE (ha pins s σ H _ I h) fun v s1 x H1 I1 r1 q1 => ?_)
 obtain ⟨c,rfl,q1⟩:=q1
 cases r1
 exact not_of (wpAny_truthy_bool ⟨.bl (!c),H1,I1,rfl,q1⟩)
noncomputable def tIf (t:TT) (ta tb:TE):TE:=fun σ H Q=>t σ H fun c H1=>if c=true then ta σ H1 Q else tb σ H1 Q
theorem pe_ifExp {c:Expr} (hc:PT X c tA) (ha:PE X a ta) (hb:PE X b tb):PE X (.IfExp c a b pos) (tIf tA ta tb):=by
 intro pins s σ H Q I h
 refine wpAny_IfExp (thn (hc pins s σ H _ I h) fun d s1 ⟨H1,I1,q1⟩ => ?_)
 cases d with
 | true=>exact ha pins s1 σ H1 Q I1 q1
 | false=>exact hb pins s1 σ H1 Q I1 q1
end
noncomputable def SqL (K:W.Frag) (H:Hp) (a:Addr) (xs:List V):Prop :=
 Rd H a (.lst xs) \/
  ∃ (o:Obj) (its:Array Value) (n:Nat),K.lookup a=some o/\o.cls = .type "list" /\ o.dict=none/\o.data = .seq its n/\its.size<=sizeLine/\Vals xs its.toList
noncomputable def SqT (K:W.Frag) (H:Hp) (a:Addr) (xs:List V):Prop :=
 Rd H a (.tup xs) \/
  ∃ (o:Obj) (its:Array Value) (n:Nat),K.lookup a=some o/\o.cls = .type "tuple" /\ o.data = .seq its n/\its.size<=sizeLine/\Vals xs its.toList
noncomputable def absV:Value->Option V
 | .none=>some .non
 | .bool b=>some (.bl b)
 | .int i _=>some (.int i)
 | .str x _=>some (.str x)
 | .bytes b _=>some (.byt b)
 | .float b _=>some (.flt b)
 | .ref a=>some (.ref a)
 | .type n=>some (.ty n)
 | _=>none
theorem RelV.abs {x:V} {u:Value} (r:RelV x u):absV u=some x:=by
 cases x with
 | non=>cases r; rfl
 | bl _=>cases r; rfl
 | int _=>obtain ⟨t,rfl⟩:=r; rfl
 | str _=>obtain ⟨t,rfl⟩:=r; rfl
 | byt _=>obtain ⟨t,rfl⟩:=r; rfl
 | flt _=>obtain ⟨t,rfl⟩:=r; rfl
 | ref _=>cases r; rfl
 | ty _=>cases r; rfl
theorem RelV.inj {x y:V} {u:Value} (r:RelV x u) (q:RelV y u):x=y:=Option.some.inj (r.abs.symm.trans q.abs)
theorem Vals.inj:∀ {xs ys:List V} {us:List Value},Vals xs us->Vals ys us->xs=ys
 | _,_,_,.nil,.nil=>rfl
 | _,_,_,.cons r t,.cons r' t'=>by rw [r.inj r',Vals.inj t t']
section
variable {X:Cx} {pins:List (Addr×Obj)} {σ : St} {H:Hp} {s:Shared} {a:Addr} {xs ys:List V}
theorem SqL.of {K:W.Frag} (h:H a=some (.lst xs)):SqL K H a xs := .inl (.inl h)
theorem SqT.of {K:W.Frag} (h:H a=some (.tup xs)):SqT K H a xs := .inl (.inl h)
theorem Inv.list (I:Inv X pins σ H s) (h:SqL X.K H a xs):∃ its:List Value,Vals xs its/\PlainL s.heap a its.toArray/\xs.length<=sizeLine:=by
 rcases h with h | ⟨o,its,n,hk,hc,hd,hs,hz,r⟩
 ·obtain ⟨z,its,n,r,e⟩:=h.ok I.hok
  exact ⟨its,r,⟨_,n,e,rfl,rfl,rfl⟩,z⟩
 ·refine ⟨its.toList,r,⟨o,n,I.kIn a o hk,hc,hd,by simpa using hs⟩,?_⟩
  have e:=r.length
  simp only [Array.length_toList] at e
  omega
theorem Inv.tuple (I:Inv X pins σ H s) (h:SqT X.K H a xs):∃ its:List Value,Vals xs its/\IsTup s.heap a its.toArray/\xs.length<=sizeLine:=by
 rcases h with h | ⟨o,its,n,hk,hc,hs,hz,r⟩
 ·obtain ⟨z,its,r,p⟩:=h.ok I.hok
  exact ⟨its,r,p,z⟩
 ·refine ⟨its.toList,r,⟨o,I.kIn a o hk,hc,n,by simpa using hs⟩,?_⟩
  have e:=r.length
  simp only [Array.length_toList] at e
  omega
theorem Inv.list_inj (I:Inv X pins σ H s) (h:SqL X.K H a xs) (h':SqL X.K H a ys):xs=ys:=by
 obtain ⟨its,r,⟨o,n,e,_,_,d⟩,_⟩:=I.list h
 obtain ⟨its',r',⟨o',n',e',_,_,d'⟩,_⟩:=I.list h'
 rw [e] at e'; cases e'
 rw [d] at d'
 injection d' with d1 _
 have:its=its':=by simpa using congrArg Array.toList d1
 subst this
 exact r.inj r'
end
noncomputable abbrev Cx.wish (X:Cx) (E:Value->Shared->Prop):Cx:={ X with xe:=E }
noncomputable abbrev Cx.nox (X:Cx):Cx:=X.wish fun _ _=>False
theorem Cx.Ok.wish {X:Cx} (ok:X.Ok) (E:Value->Shared->Prop):(X.wish E).Ok :=
 ⟨ok.mod,ok.kind,ok.glob,ok.blt,ok.above,ok.inj,ok.has,ok.cab,ok.hd,ok.frames,ok.stk,ok.exf,ok.bs,ok.bsz,ok.noex,ok.exfs,ok.funs,ok.frf⟩
theorem Cx.Ok.unwish {X:Cx} {E:Value->Shared->Prop} (ok:(X.wish E).Ok):X.Ok :=
 ⟨ok.mod,ok.kind,ok.glob,ok.blt,ok.above,ok.inj,ok.has,ok.cab,ok.hd,ok.frames,ok.stk,ok.exf,ok.bs,ok.bsz,ok.noex,ok.exfs,ok.funs,ok.frf⟩
section
variable {X:Cx} {pins:List (Addr×Obj)} {σ : St} {H:Hp} {s:Shared} {E:Value->Shared->Prop}
theorem Inv.wish (I:Inv X pins σ H s) (E:Value->Shared->Prop):Inv (X.wish E) pins σ H s:=⟨I.ok.wish E,I.os,I.bare,I.base,I.loc,I.cell,I.free,I.freeC,I.pin,I.hok,I.len⟩
theorem Inv.unwish (I:Inv (X.wish E) pins σ H s):Inv X pins σ H s:=⟨I.ok.unwish,I.os,I.bare,I.base,I.loc,I.cell,I.free,I.freeC,I.pin,I.hok,I.len⟩
theorem SP.unwish {D:Ends} {f:Flow} {s':Shared} (h:SP (X.wish E) pins D f s'):SP X pins D f s':=by
 cases f with
 | next=>obtain ⟨σ',H',I,q⟩:=h; exact ⟨σ',H',I.unwish,q⟩
 | brk=>obtain ⟨σ',H',I,q⟩:=h; exact ⟨σ',H',I.unwish,q⟩
 | cont=>obtain ⟨σ',H',I,q⟩:=h; exact ⟨σ',H',I.unwish,q⟩
 | ret u=>obtain ⟨v,σ',H',I,r,q⟩:=h; exact ⟨v,σ',H',I.unwish,r,q⟩
theorem PSs.nox {st:List Stmt} {t:TS} (h:PSs X.nox st t):PSs X st t:=fun pins s σ H D I hw =>
 wpAny_mono (h pins s σ H D (I.wish _) hw) (fun _ _ q=>q.unwish) fun _ _ z=>False.elim z
end
section
variable {X:Cx} {st:Stmt} {rest:List Stmt} {t u:TS} {e:Expr} {te:TE} {pos:Pos}
noncomputable def tNext:TS:=fun D σ H=>D.nx σ H
noncomputable def tSeq (t u:TS):TS:=fun D σ H=>t { D with nx:=u D } σ H
theorem zao:PSs X [] tNext:=fun _ _ σ H _ I h=>wpAny_execs_nil ⟨σ,H,I,h⟩
theorem zad (h1:PS X st t) (h2:PSs X rest u):PSs X (st :: rest) (tSeq t u):=by
 intro pins s σ H D I h
 refine wpAny_execs_cons (thn (h1 pins s σ H { D with nx:=u D } I h) fun f s1 q => ?_)
 cases f with
 | next =>
  obtain ⟨σ',H',I',q⟩:=q
  exact h2 pins s1 σ' H' D I' q
 | ret v=>exact q
 | brk=>exact q
 | cont=>exact q
theorem zag (h1:PS X st t):PSs X [st] t:=by
 intro pins s σ H D I h
 refine wpAny_execs_cons (thn (h1 pins s σ H D I h) fun f s1 q => ?_)
 cases f with
 | next=>exact wpAny_execs_nil q
 | ret v=>exact q
 | brk=>exact q
 | cont=>exact q
theorem Inv.quiet {pins:List (Addr×Obj)} {σ : St} {H:Hp} {s:Shared} (I:Inv X pins σ H s):interactive X.env=false:=by simp [interactive,I.ok.kind]
noncomputable def tDrop (te:TE):TS:=fun D σ H=>te σ H fun _ H1=>D.nx σ H1
theorem zaS (he:PE X e te) (hs:swapsWith e none pos.line X.env=pure false:=by rfl):PS X (.Expr e pos) (tDrop te):=by
 intro pins s σ H D I h
 exact wpAny_Expr_any (thnE (he pins s σ H _ I h) fun v s1 x H1 I1 r1 q1=>⟨σ,H1,I1,q1⟩) I.quiet hs
noncomputable def tRet (te:TE):TS:=fun D σ H=>te σ H D.rt
theorem zaj (he:PE X e te):PS X (.Return (some e) pos) (tRet te):=by
 intro pins s σ H D I h
 exact wpAny_Return_some (thnE (he pins s σ H _ I h) fun v s1 x H1 I1 r1 q1=>⟨x,σ,H1,I1,r1,q1⟩)
noncomputable def tIfS (c:TT) (t u:TS):TS:=fun D σ H=>c σ H fun b H1=>if b=true then t D σ H1 else u D σ H1
theorem zaM {c:Expr} {a b:List Stmt} {tc:TT} (hc:PT X c tc) (ha:PSs X a t) (hb:PSs X b u):PS X (.If c a b pos) (tIfS tc t u):=by
 intro pins s σ H D I h
 refine wpAny_If (thn (hc pins s σ H _ I h) fun d s1 ⟨H1,I1,q1⟩ => ?_)
 cases d with
 | true=>exact ha pins s1 σ H1 D I1 q1
 | false=>exact hb pins s1 σ H1 D I1 q1
end
noncomputable abbrev TG:=V->St->Hp->(St->Hp->Prop)->Prop
noncomputable abbrev TGs:=List V->St->Hp->(St->Hp->Prop)->Prop
noncomputable def PG (X:Cx) (target:Expr) (t:TG):Prop :=
 ∀ (pins:List (Addr×Obj)) (s:Shared) (σ : St) (H:Hp) (v:V) (u:Value) (Q:St->Hp->Prop),Inv X pins σ H s->RelV v u->t v σ H Q ->
  wpAny (model X.prog X.w) X.A (assign target X.env u) (fun _ s'=>∃ σ' H',Inv X pins σ' H' s'/\Q σ' H') X.xe s
noncomputable def PGs (X:Cx) (ts:List Expr) (t:TGs):Prop :=
 ∀ (pins:List (Addr×Obj)) (s:Shared) (σ : St) (H:Hp) (vs:List V) (us:List Value) (Q:St->Hp->Prop),Inv X pins σ H s->Vals vs us->t vs σ H Q ->
  wpAny (model X.prog X.w) X.A (assignInOrder ((assignEach ts X.env).map (·.2)) us) (fun _ s'=>∃ σ' H',Inv X pins σ' H' s'/\Q σ' H') X.xe s
noncomputable abbrev TSet:=V->V->V->Hp->(Hp->Prop)->Prop
noncomputable def PSet (X:Cx) (t:TSet):Prop :=
 ∀ (pins:List (Addr×Obj)) (s:Shared) (σ : St) (H:Hp) (o i v:V) (ov iv u:Value) (Q:Hp->Prop),Inv X pins σ H s->RelV o ov->RelV i iv->RelV v u->t o i v H Q ->
  wpAny (model X.prog X.w) X.A (setItem ov iv u) (fun _ s'=>∃ H',Inv X pins σ H' s'/\Q H') X.xe s
section
variable {X:Cx} {pos:Pos}
noncomputable def gName (i:Nat):TG:=fun v σ H Q=>Q (σ.set i (some v)) H
theorem zam {i:Nat} {x:Str} (hN:X.N.Nodup) (hi:X.N[i]?=some x) (hx:Loc X.env.scope x) (hf:X.fn x=true\/X.env.scope.names.lookup x=some .local:=by first | exact .inl rfl | exact .inr rfl | assumption):PG X (.Name x pos) (gName i):=by
 intro pins s σ H v u Q I r h
 exact wpAny_assign_Name (zdW I hN hi hx r (fun s' I'=>⟨_,H,I',h⟩) hf)
noncomputable def gNil:TGs:=fun vs σ H Q=>vs = []/\Q σ H
noncomputable def gCons (t:TG) (u:TGs):TGs:=fun vs σ H Q=>∃ v r,vs=v :: r/\t v σ H fun σ' H'=>u r σ' H' Q
theorem zc2:PGs X [] gNil:=by
 intro pins s σ H vs us Q I r h
 obtain ⟨e,h⟩:=h
 subst e
 cases r
 exact assignInOrder_nil ⟨σ,H,I,h⟩
theorem zbd {e:Expr} {es:List Expr} {t:TG} {u:TGs} (h1:PG X e t) (h2:PGs X es u)
  (hs:(assignEach (e :: es) X.env).map (·.2)=assign e X.env :: (assignEach es X.env).map (·.2):=by rfl):PGs X (e :: es) (gCons t u):=by
 intro pins s σ H vs us Q I r h
 obtain ⟨v,vr,e1,h⟩:=h
 subst e1
 cases r with
 | cons r rr =>
  rw [hs]
  refine assignInOrder_cons (thn (h1 pins s σ H _ _ _ I r h) fun _ s1 ⟨σ1,H1,I1,q1⟩ => ?_)
  exact h2 pins s1 σ1 H1 _ _ Q I1 rr q1
noncomputable def gTup (K:W.Frag) (n:Nat) (t:TGs):TG:=fun v σ H Q=>∃ a xs,v = .ref a/\SqT K H a xs/\xs.length=n/\t xs σ H Q
theorem pg_tup {es:List Expr} {k:Nat} {t:TGs} {n:Nat} (hc:X.calm=true) (h:PGs X es t)
  (hn:(assignEach es X.env).length=n:=by rfl) (hst:(assignEach es X.env).findIdx? (·.1)=none:=by rfl):PG X (.Tuple es k pos) (gTup X.K n t):=by
 intro pins s σ H v u Q I r hw
 obtain ⟨a,xs,e1,hq,hl,hw⟩:=hw
 subst e1
 cases r
 obtain ⟨its,rv,ht,hz⟩:=I.tuple hq
 refine assign_Tuple_tuple (I.ok.hd hc) ht (by simp [hn,<- hl,rv.length]) hst fun h' hx => ?_
 have I1:Inv X pins σ H { s with heap:=h' }:=I.kept (t':=s.toks) fun b o e=>hx b o (Nat.ne_of_lt (Heap.lt_size e)) e
 exact h pins _ σ H xs _ Q I1 (by simpa using rv) hw
noncomputable def gSub (to ti:TE) (t:TSet):TG:=fun v σ H Q=>to σ H fun o H1=>ti σ H1 fun i H2=>t o i v H2 fun H3=>Q σ H3
theorem zg1 {o i:Expr} {to ti:TE} {t:TSet} (ho:PE X o to) (hi:PE X i ti) (hs:PSet X t)
  (ha:∀ v,assign (.Subscript o i pos) X.env v=(do
   let ov <- holding [v] (eval o X.env)
   let iv <- holding [v,ov] (eval i X.env)
   standAt pos
   holding [v,ov,iv] (setItem ov iv v)
   release [v,ov,iv] []):=by intro _; rfl):PG X (.Subscript o i pos) (gSub to ti t):=by
 intro pins s σ H v u Q I r h
 rw [ha]
 refine wpAny_bind (wpAny_holding (thnE (ho pins s σ H _ I h) fun ov s1 x H1 I1 r1 q1 => ?_))
 refine wpAny_bind (wpAny_holding (thnE (hi pins s1 σ H1 _ I1 q1) fun iv s2 y H2 I2 r2 q2 => ?_))
 refine wpAny_bind (wpAny_standAt (wpAny_bind (wpAny_holding (thn (hs pins s2 σ H2 x y v ov iv u _ I2 r1 r2 r q2) fun _ s3 ⟨H3,I3,q3⟩ => ?_))))
 exact wpAny_release ⟨σ,H3,I3,q3⟩
noncomputable def tAsg (te:TE) (g:TG):TS:=fun D σ H=>te σ H fun x H1=>g x σ H1 D.nx
theorem zgZ {tg e:Expr} {te:TE} {g:TG} (he:PE X e te) (hg:PG X tg g) (hs:swapsWithSole [tg] e pos.line X.env=pure false:=by rfl) (hw:swappedStores [tg] e X.env=pure none:=by rfl)
  (h1:(assignEach [tg] X.env).map (·.2) = [assign tg X.env]:=by rfl):PS X (.Assign [tg] e pos) (tAsg te g):=by
 intro pins s σ H D I h
 refine wpAny_Assign_stores (thnE (he pins s σ H _ I h) fun v s1 x H1 I1 r1 q1 => ?_) hs hw
 rw [h1]
 exact thn (hg pins s1 σ H1 x v _ I1 r1 q1) fun _ s2 q=>q
theorem zan {i:Nat} {x:Str} {e:Expr} {te:TE} {pos':Pos} (hN:X.N.Nodup) (hi:X.N[i]?=some x) (hx:Loc X.env.scope x) (he:PE X e te) (hs:swapsWith e (some (.Name x pos')) pos.line X.env=pure false:=by rfl) (hf:X.fn x=true\/X.env.scope.names.lookup x=some .local:=by first | exact .inl rfl | exact .inr rfl | assumption) :
  PS X (.Assign [.Name x pos'] e pos) (tAsg te (gName i)):=by
 intro pins s σ H D I h
 refine wpAny_Assign_Name (thnE (he pins s σ H _ I h) fun v s1 y H1 I1 r1 q1 => ?_) hs
 exact zdW I1 hN hi hx r1 (fun s2 I2=>⟨_,H1,I2,q1⟩) hf
end
section
variable {X:Cx} {pos:Pos}
noncomputable def tWhile (c:TT) (tb:TS):TS:=fun D σ H=>∃ W:Nat->St->Hp->Prop,(∃ m,W m σ H)/\∀ m σ H,W m σ H ->
 c σ H fun b H1=>if b=true then ∃ N:St->Hp->Prop,(∀ σ' H',N σ' H'->∃ m',m' < m/\W m' σ' H')/\tb { D with nx:=N,ct:=N,bk:=D.nx } σ H1 else D.nx σ H1
theorem ps_while {c:Expr} {body:List Stmt} {tc:TT} {tb:TS} (hp:PassesOwn (model X.prog X.w) X.A X.env X.xe) (hc:PT X c tc) (hb:PSs X body tb):PS X (.While c body [] pos) (tWhile tc tb):=by
 intro pins s σ H D I h
 obtain ⟨W,⟨m0,w0⟩,turn⟩:=h
 refine wpAny_While (codeAny_whileLoop (fun n s'=>∃ σ' H',Inv X pins σ' H' s'/\W n σ' H') ?_ m0 ⟨σ,H,I,w0⟩)
 rintro n s1 ⟨σ1,H1,I1,w1⟩
 refine wpAny_passesOwn hp (thn (hc pins s1 σ1 H1 _ I1 (turn n σ1 H1 w1)) fun b s2 ⟨H2,I2,q2⟩ => ?_)
 cases b with
 | true =>
  obtain ⟨N,hN,q2⟩:=q2
  rw [if_pos rfl]
  refine wpAny_passesOwn hp (thn (hb pins s2 σ1 H2 _ I2 q2) fun f s3 q3 => ?_)
  cases f with
  | next =>
   obtain ⟨σ3,H3,I3,n3⟩:=q3
   obtain ⟨m',hm,w3⟩:=hN σ3 H3 n3
   exact ⟨m',hm,σ3,H3,I3,w3⟩
  | cont =>
   obtain ⟨σ3,H3,I3,n3⟩:=q3
   obtain ⟨m',hm,w3⟩:=hN σ3 H3 n3
   exact ⟨m',hm,σ3,H3,I3,w3⟩
  | brk=>exact q3
  | ret v=>exact q3
 | false =>
  rw [if_neg Bool.false_ne_true]
  exact wpAny_execs_nil ⟨σ1,H2,I2,q2⟩
end
structure It where
 go:Nat->Hp->Prop
 yld:Nat->Hp->V->Hp->Prop
 stop:Nat->Hp->Prop
noncomputable def FpOk (X:Cx) (pins:List (Addr×Obj)) (H:Hp) (b:Addr):Prop :=
 H b=none/\b≠X.env.locals/\b ∉ X.fs/\(b∈X.ex\/X.s₀.heap.objs.size<=b)/\(∀ x c,X.env.cells.lookup x=some c->c≠b)/\∀ p∈X.pn ++ pins,p.1≠b
theorem Inv.fpOk {X:Cx} {pins:List (Addr×Obj)} {σ : St} {H H':Hp} {s:Shared} {b:Addr} (I:Inv X pins σ H s) (hb:s.heap.objs.size<=b) (hn:H' b=none):FpOk X pins H' b:=by
 refine ⟨hn,Nat.ne_of_gt (Nat.lt_of_lt_of_le I.lt hb),I.nofs hb,.inr (Nat.le_trans I.sz hb),fun x c e z => ?_,fun p hp z => ?_⟩
 ·obtain ⟨v,q⟩:=I.cell x c e
  exact absurd (Nat.lt_of_lt_of_le q.lt (by rw [z]; exact hb)) (Nat.lt_irrefl _)
 ·exact absurd (Nat.lt_of_lt_of_le (Heap.lt_size (I.pin p hp).1) (by rw [z]; exact hb)) (Nat.lt_irrefl _)
structure Turn (P:Program) (w:World) (K:W.Frag) (tg:Expr) (J:It) (fp:List Addr) (it:Addr) (tn:Nat->Heap->Prop):Prop where
 mem:it∈fp
 obj:∀ i h,tn i h->∀ b∈fp,∃ o,h.get? b=some o/\∀ v,o.data ≠ .cell v
 keep:∀ i h h',tn i h->(∀ b∈fp,∀ o,h.get? b=some o->h'.get? b=some o)->tn i h'
 item:∀ (X:Cx),X.prog=P->X.w=w->X.K=K->X.calm=true->∀ (i:Nat) (pins:List (Addr×Obj)) (s:Shared) (σ : St) (H:Hp) (E:Value->Shared->Prop),Inv X pins σ H s->(∀ b∈fp,FpOk X pins H b)->tn i s.heap->J.go i H ->
  wpAny (model P w) X.A (pyNext (.ref it)) (fun r s1=>∃ u,r=some u /\
   wpAny (model P w) X.A (letOwnedTupleGo tg (.ref it) u) (fun _ s2=>∃ x H',Inv X pins σ H' s2/\RelV x u/\J.yld i H x H'/\tn (i + 1) s2.heap/\∀ b∈fp,H' b=none) E s1) E s
 done:∀ (X:Cx),X.prog=P->X.w=w->X.K=K->X.calm=true->∀ (i:Nat) (pins:List (Addr×Obj)) (s:Shared) (σ : St) (H:Hp) (E:Value->Shared->Prop),Inv X pins σ H s->(∀ b∈fp,FpOk X pins H b)->tn i s.heap->J.stop i H ->
  wpAny (model P w) X.A (pyNext (.ref it)) (fun r s1=>r=none/\Inv X pins σ H s1) E s
 self:∀ (A:Around) (i:Nat) (s:Shared) (Q:Value->Shared->Prop) (E:Value->Shared->Prop),tn i s.heap->Q (.ref it) s->wpAny (model P w) A (pyIter (.ref it)) Q E s
noncomputable abbrev TI:=St->Hp->(It->Hp->Prop)->Prop
noncomputable def PIE (X:Cx) (pins:List (Addr×Obj)) (σ : St) (tg:Expr) (R:It->Hp->Prop) (itv:Value) (s2:Shared):Prop :=
 ∃ (it:Addr) (fp:List Addr) (tn:Nat->Heap->Prop) (J:It) (H':Hp),itv = .ref it/\Inv X pins σ H' s2/\Turn X.prog X.w X.K tg J fp it tn/\tn 0 s2.heap/\(∀ b∈fp,FpOk X pins H' b)/\R J H'
noncomputable def PI (X:Cx) (tg iter:Expr) (wi:TI):Prop :=
 ∀ (pins:List (Addr×Obj)) (s:Shared) (σ : St) (H:Hp) (R:It->Hp->Prop),Inv X pins σ H s->wi σ H R ->
  wpAny (model X.prog X.w) X.A (eval iter X.env) (fun v s1=>wpAny (model X.prog X.w) X.A (pyIter v) (PIE X pins σ tg R) X.xe s1) X.xe s
theorem zgU {M:Model} {A:Around} {E:Value->Shared->Prop} {s:Shared} {tg:Expr} {it:Addr} {u:Value} {o:Obj} {n:String} {vs:Array Value} {Q:Unit->Shared->Prop} (ho:s.heap.get? it=some o) (hc:o.cls = .type n) (hd:o.data = .fields vs)
  (hn : ["enumerate","zip","dict_itemiterator","dict_reverseitemiterator","odict_iterator","itertools.zip_longest","itertools.pairwise"].contains n=false) (hQ:Q () s):wpAny M A (letOwnedTupleGo tg (.ref it) u) Q E s:=by
 unfold letOwnedTupleGo
 cases tg <;> first
  | exact wpAny_pure hQ
  | (cases u <;> first
    | exact wpAny_pure hQ
    | (refine wpAny_bind (wpAny_load ho ?_)
       rw [hc,hd]
       show wpAny M A (if (["enumerate","zip","dict_itemiterator","dict_reverseitemiterator","odict_iterator","itertools.zip_longest","itertools.pairwise"].contains n && vs[0]? == some (rawInt _))=true then _ else _) Q E s
       rw [if_neg (by intro h; rw [hn,Bool.false_and] at h; cases h)]
       exact wpAny_pure hQ))
noncomputable def Itl (K:W.Frag) (a:Addr):It :=
 ⟨fun i H=>∃ xs x,SqL K H a xs/\xs[i]?=some x,fun i H x H'=>H'=H/\∀ xs,SqL K H a xs->xs[i]?=some x,fun i H=>∃ xs,SqL K H a xs/\xs.length<=i⟩
noncomputable def Itr (lo:Int) (n:Nat):It:=⟨fun i _=>i < n,fun i H x H'=>H'=H/\x = .int (lo + i),fun i _=>n<=i⟩
theorem turn_list {P:Program} {w:World} {K:W.Frag} {tg:Expr} (a it:Addr):Turn P w K tg (Itl K a) [it] it (fun i h=>h.IsListIter it a i) where
 mem:=by simp
 obj:=fun i h st b hb=>by
  have e:b=it:=by simpa using hb
  subst e
  obtain ⟨o,e,c,d⟩:=st
  exact ⟨o,e,fun v z=>by rw [d] at z; cases z⟩
 keep:=fun i h h' st k=>st.at fun o e=>k it (by simp) o e
 item:=by
  intro X hP hw hK hc i pins s σ H E I hf st hg
  subst hP hw hK
  obtain ⟨xs,x,hq,hx⟩:=hg
  obtain ⟨its,rv,p,hz⟩:=I.list hq
  obtain ⟨u,hu,ru⟩:=rv.get hx
  obtain ⟨f0,f1,f2,f3,f4,f5⟩:=hf it (by simp)
  refine wpAny_pyNext_list_item st p.isList (x:=u) (by simpa using hu) fun h' st' sb => ?_
  have I1:Inv X pins σ H { s with heap:=h' }:=I.turned (t':=s.toks) (fun b o hb e=>(sb.2 b hb).trans e) f0 f1 f3 f4 f5
  obtain ⟨o,e,c,d⟩:=id st'
  exact ⟨u,rfl,zgU (s:={ s with heap:=h' }) e c d (by decide) ⟨x,H,I1,ru,⟨rfl,fun ys hy=>by rw [I.list_inj hy hq]; exact hx⟩,st',fun b hb=>(hf b hb).1⟩⟩
 done:=by
  intro X hP hw hK hc i pins s σ H E I hf st hg
  subst hP hw hK
  obtain ⟨xs,hq,hx⟩:=hg
  obtain ⟨its,rv,p,hz⟩:=I.list hq
  obtain ⟨f0,f1,f2,f3,f4,f5⟩:=hf it (by simp)
  have hl:=rv.length
  exact wpAny_pyNext_list_end (I.ok.hd hc) st p.isList (by simp; omega) fun h' eb=>⟨rfl,I.turned (t':=s.toks) (fun b o hb e=>eb b o hb e) f0 f1 f3 f4 f5⟩
 self:=fun _ _ _ _ _ st h=>wpAny_pyIter_listiter st h
theorem turn_range {P:Program} {w:World} {K:W.Frag} {tg:Expr} (it:Addr) (lo:Int) (n:Nat):Turn P w K tg (Itr lo n) [it] it (fun i h=>IsRangeIter h it (lo + (i:Nat) * 1) ((n:Int) - (i:Nat)) 1) where
 mem:=by simp
 obj:=fun i h st b hb=>by
  have e:b=it:=by simpa using hb
  subst e
  exact ⟨_,st,fun v z=>by
   have z':Data.fields _=Data.cell v:=z
   cases z'⟩
 keep:=fun i h h' st k=>k it (by simp) _ st
 item:=by
  intro X hP hw hK hc i pins s σ H E I hf st hg
  subst hP hw hK
  obtain ⟨f0,f1,f2,f3,f4,f5⟩:=hf it (by simp)
  have W:=Walks.range (prog:=X.prog) (w:=X.w) (I.ok.hd hc) it lo 1 n
  refine W.item i s _ _ hg st fun v h' tk hv st' kk => ?_
  obtain ⟨t,rfl⟩:=hv
  have I1:Inv X pins σ H { s with heap:=h',toks:=tk }:=I.turned (fun b o hb e=>kk b o (by simpa using hb) e) f0 f1 f3 f4 f5
  refine ⟨_,rfl,zgU (s:={ s with heap:=h',toks:=tk }) (n := "range_iterator") st' rfl rfl (by decide) ⟨.int (lo + i),H,I1,⟨t,?_⟩,⟨rfl,rfl⟩,st',fun b hb=>(hf b hb).1⟩⟩
  rw [Int.mul_one]
 done:=by
  intro X hP hw hK hc i pins s σ H E I hf st hg
  subst hP hw hK
  obtain ⟨f0,f1,f2,f3,f4,f5⟩:=hf it (by simp)
  exact wpAny_pyNext_range_end (I.ok.hd hc) st (by have:n<=i:=hg; omega) fun h' eb=>⟨rfl,I.turned (t':=s.toks) (fun b o hb e=>eb b o hb e) f0 f1 f3 f4 f5⟩
 self:=fun _ _ _ _ _ st h=>wpAny_pyIter_rangeiter st h
section
variable {X:Cx} {tg:Expr}
noncomputable def iList (K:W.Frag) (tl:TE):TI:=fun σ H R=>tl σ H fun x H1=>∃ a,x = .ref a/\(∃ xs,SqL K H1 a xs)/\R (Itl K a) H1
theorem zav {l:Expr} {tl:TE} (hl:PE X l tl):PI X tg l (iList X.K tl):=by
 intro pins s σ H R I h
 refine thnE (hl pins s σ H _ I h) fun v s1 x H1 I1 r1 q1 => ?_
 obtain ⟨a,e,⟨xs,hq⟩,q⟩:=q1
 subst e
 cases r1
 obtain ⟨its,rv,p,hz⟩:=I1.list hq
 refine wpAny_pyIter_list p.isList ?_
 refine ⟨s1.heap.objs.size,[s1.heap.objs.size],_,_,H1,rfl,I1.kept (t':=s1.toks) fun b o e=>Heap.get?_push_of_some _ e,turn_list a _,⟨_,Heap.get?_push_size _ rfl,rfl,rfl⟩,fun b hb => ?_,q⟩
 have e:b=s1.heap.objs.size:=by simpa using hb
 subst e
 exact I1.fpOk (Nat.le_refl _) (I1.hok.fresh (Nat.le_refl _))
theorem zfv {pins:List (Addr×Obj)} {σ : St} {H:Hp} {s:Shared} {R:It->Hp->Prop} {E:Value->Shared->Prop} {lo hi:Int} {t u v:Tok} {tk:Nat} (I:Inv X pins σ H s) (h1 : -(2 ^ 62)<=lo) (h2:lo < 2 ^ 62) (h3 : -(2 ^ 62)<=hi) (h4:hi < 2 ^ 62)
  (q:R (Itr lo (hi - lo).toNat) H):wpAny (model X.prog X.w) X.A (pyIter (.ref s.heap.objs.size)) (PIE X pins σ tg R) E { s with heap:=s.heap.push { cls := .type "range",data := .fields #[.int lo t,.int hi u,.int 1 v] },toks:=tk }:=by
 refine wpAny_pyIter_range (IsRange.new ..) (small_one h1 h2 h3 h4) ?_
 have I1:Inv X pins σ H { s with heap:=s.heap.push { cls := .type "range",data := .fields #[.int lo t,.int hi u,.int 1 v] },toks:=tk }:=I.kept fun b o e=>Heap.get?_push_of_some _ e
 refine ⟨(s.heap.push { cls := .type "range",data := .fields #[.int lo t,.int hi u,.int 1 v] }).objs.size,[(s.heap.push { cls := .type "range",data := .fields #[.int lo t,.int hi u,.int 1 v] }).objs.size],_,_,H,rfl,
  I1.kept (t':=tk) fun b o e=>Heap.get?_push_of_some _ e,turn_range _ lo (hi - lo).toNat,?_,fun b hb => ?_,q⟩
 ·have e1:lo + ((0:Nat):Int) * 1=lo:=by simp
  have e2:(((hi - lo).toNat:Nat):Int) - ((0:Nat):Int)=Builtin.Range.rangeSize lo hi 1:=by rw [rangeSize_one]; split <;> omega
  show IsRangeIter _ _ (lo + ((0:Nat):Int) * 1) ((((hi - lo).toNat:Nat):Int) - ((0:Nat):Int)) 1
  rw [e1,e2]
  exact Heap.get?_push_size _ rfl
 ·have e:b=(s.heap.push { cls := .type "range",data := .fields #[.int lo t,.int hi u,.int 1 v] }).objs.size:=by simpa using hb
  subst e
  exact I1.fpOk (Nat.le_refl _) (I1.hok.fresh (Nat.le_refl _))
noncomputable def iRng1 (ta:TA):TI:=fun σ H R=>ta σ H fun vs H1=>∃ j:Int,vs = [.int j] /\ -(2 ^ 62)<=j/\j < 2 ^ 62/\R (Itr 0 j.toNat) H1
noncomputable def iRng2 (ta:TA):TI:=fun σ H R=>ta σ H fun vs H1=>∃ i j:Int,vs = [.int i,.int j]/\(-(2 ^ 62)<=i/\i < 2 ^ 62 /\ -(2 ^ 62)<=j/\j < 2 ^ 62)/\R (Itr i (j - i).toNat) H1
theorem zbo {a:Expr} {ta:TA} {p pos:Pos} (hg:Gl X "range") (hm:X.mg "range" = none) (ha:PA X [a] ta) (hs:starEach [a] X.env = [(false,eval a X.env)]:=by rfl):PI X tg (.Call (.Name "range" p) [a] [] pos) (iRng1 ta):=by
 intro pins s σ H R I h
 refine Call_ (zdH I hg hm boot_range (PyProof.Rows.callWith_type1 (thnE (ha pos pins s σ H _ I h) fun us s1 vs H1 I1 r1 q1 => ?_) hs rfl))
 obtain ⟨j,e,q1,q2,q⟩:=q1
 subst e
 cases r1 with
 | cons r rr =>
  cases rr
  obtain ⟨t,rfl⟩:=r
  exact call_range_1 (zfv I1 (by omega) (by omega) q1 q2 (by simpa using q))
theorem pi_range2 {a b:Expr} {ta:TA} {p pos:Pos} (hg:Gl X "range") (hm:X.mg "range" = none) (ha:PA X [a,b] ta) (hs:starEach [a,b] X.env = [(false,eval a X.env),(false,eval b X.env)]:=by rfl) (hs2:starEach [b] X.env = [(false,eval b X.env)]:=by rfl) :
  PI X tg (.Call (.Name "range" p) [a,b] [] pos) (iRng2 ta):=by
 intro pins s σ H R I h
 refine Call_ (zdH I hg hm boot_range (PyProof.Rows.callWith_type1 (thnE (ha pos pins s σ H _ I h) fun us s1 vs H1 I1 r1 q1 => ?_) (by rw [hs,hs2]) (by rw [hs2]; rfl)))
 obtain ⟨i,j,e,⟨q1,q2,q3,q4⟩,q⟩:=q1
 subst e
 cases r1 with
 | cons r rr =>
  cases rr with
  | cons r' rr =>
   cases rr
   obtain ⟨t,rfl⟩:=r
   obtain ⟨t',rfl⟩:=r'
   exact call_range_2 (zfv I1 q1 q2 q3 q4 q)
noncomputable def tFor (wi:TI) (g:TG) (tb:TS):TS:=fun D σ H=>wi σ H fun J H1=>∃ W:Nat->Nat->St->Hp->Prop,(∃ m,W 0 m σ H1)/\∀ i m σ H,W i m σ H ->
 (J.stop i H/\D.nx σ H)\/(J.go i H/\∃ N:St->Hp->Prop,(∀ σ' H',N σ' H'->∃ m',m' < m/\W (i + 1) m' σ' H')/\∀ x H',J.yld i H x H'->g x σ H' fun σ2 H2=>tb { D with nx:=N,ct:=N,bk:=D.nx } σ2 H2)
noncomputable def pinsAt (fp:List Addr) (h:Heap):List (Addr×Obj):=fp.filterMap fun b=>(h.get? b).map fun o=>(b,o)
theorem zb2 {fp:List Addr} {h:Heap} {b:Addr} {o:Obj} (hb:b∈fp) (e:h.get? b=some o):(b,o)∈pinsAt fp h:=List.mem_filterMap.mpr ⟨b,hb,by rw [e]; rfl⟩
theorem of_pinsAt {fp:List Addr} {h:Heap} {p:Addr×Obj} (hp:p∈pinsAt fp h):p.1∈fp/\h.get? p.1=some p.2:=by
 obtain ⟨b,hb,e⟩:=List.mem_filterMap.mp hp
 cases q:h.get? b with
 | none=>rw [q] at e; cases e
 | some o =>
  rw [q] at e
  have e':(b,o)=p:=Option.some.inj e
  subst e'
  exact ⟨hb,q⟩
theorem Inv.pinned {pins:List (Addr×Obj)} {σ : St} {H:Hp} {s:Shared} {fp:List Addr} (I:Inv X pins σ H s) (hf:∀ b∈fp,FpOk X pins H b) (ho:∀ b∈fp,∃ o,s.heap.get? b=some o/\∀ v,o.data ≠ .cell v):Inv X (pins ++ pinsAt fp s.heap) σ H s :=
 I.pins_of fun p hp=>(List.mem_append.mp hp).elim (fun z=>I.pin p (List.mem_append_right _ z)) fun z=>by
  obtain ⟨hb,e⟩:=of_pinsAt z
  obtain ⟨f0,f1,f2,_⟩:=hf p.1 hb
  obtain ⟨o,e',d⟩:=ho p.1 hb
  rw [e] at e'; cases e'
  exact ⟨e,f0,f1,f2,d⟩
theorem Inv.unpinned {pins pl:List (Addr×Obj)} {σ : St} {H:Hp} {s:Shared} (I:Inv X (pins ++ pl) σ H s):Inv X pins σ H s:=I.pins_of fun p hp=>I.pin p (List.mem_append_right _ (List.mem_append_left _ hp))
theorem zaY {iter:Expr} {body:List Stmt} {wi:TI} {g:TG} {tb:TS} {pos:Pos} (hp:PassesOwn (model X.prog X.w) X.A X.env X.xe) (hc:X.calm=true) (hi:PI X tg iter wi) (hg:PG X tg g) (hb:PSs X body tb)
  (hs:∀ x,foldedSetIterable iter X.env x=pure x:=by intro _; rfl):PS X (.For tg iter body [] pos) (tFor wi g tb):=by
 intro pins s σ H D I h
 refine wpAny_For (thn (hi pins s σ H _ I h) fun v s1 h1=>thn h1 fun itv s2 h2 => ?_) hs
 obtain ⟨it,fp,tn,J,H2,e,I2,T,st2,f2,W,⟨m0,w0⟩,turn⟩:=h2
 subst e
 have stat:∀ {H':Hp},(∀ b∈fp,H' b=none)->∀ b∈fp,FpOk X pins H' b:=fun hn b hb=>⟨hn b hb,(f2 b hb).2⟩
 refine codeAny_forLoop_any (fun n s'=>∃ i σ' H',Inv X pins σ' H' s'/\tn i s'.heap/\(∀ b∈fp,H' b=none)/\W i n σ' H') ?_ m0 ⟨0,σ,H2,I2,st2,fun b hb=>(f2 b hb).1,w0⟩
 rintro n s3 ⟨i,σ3,H3,I3,st3,fr3,w3⟩
 rcases turn i n σ3 H3 w3 with ⟨stop,qn⟩ | ⟨go,N,hN,step⟩
 ·refine wpAny_passesOwn hp (thn (T.done X rfl rfl rfl hc i pins s3 σ3 H3 X.xe I3 (stat fr3) st3 stop) fun r s4 ⟨hr,I4⟩ => ?_)
  subst hr
  exact wpAny_execs_nil ⟨σ3,H3,I4,qn⟩
 ·refine wpAny_passesOwn hp (thn (T.item X rfl rfl rfl hc i pins s3 σ3 H3 X.xe I3 (stat fr3) st3 go) fun r s4 ⟨u,hr,h4⟩ => ?_)
  subst hr
  refine wpAny_passesOwn hp (thn h4 fun _ s5 ⟨x,H5,I5,r5,y5,st5,fr5⟩ => ?_)
  have I5':=I5.pinned (stat fr5) (T.obj _ _ st5)
  refine wpAny_passesOwn hp (thn (hg _ s5 σ3 H5 x u _ I5' r5 (step x H5 y5)) fun _ s6 ⟨σ6,H6,I6,q6⟩ => ?_)
  refine wpAny_passesOwn hp (thn (hb _ s6 σ6 H6 _ I6 q6) fun f s7 q7 => ?_)
  have again:∀ {σ7:St} {H7:Hp},Inv X (pins ++ pinsAt fp s5.heap) σ7 H7 s7->N σ7 H7->∃ m,m < n/\∃ i σ' H',Inv X pins σ' H' s7/\tn i s7.heap/\(∀ b∈fp,H' b=none)/\W i m σ' H':=fun {σ7 H7} I7 n7=>by
   obtain ⟨m',hm,w7⟩:=hN σ7 H7 n7
   refine ⟨m',hm,i + 1,σ7,H7,I7.unpinned,T.keep _ _ _ st5 fun b hb o e=>(I7.pin (b,o) (List.mem_append_right _ (List.mem_append_right _ (zb2 hb e)))).1,fun b hb => ?_,w7⟩
   obtain ⟨o,e,d⟩:=T.obj _ _ st5 b hb
   exact (I7.pin (b,o) (List.mem_append_right _ (List.mem_append_right _ (zb2 hb e)))).2.1
  cases f with
  | next=>obtain ⟨σ7,H7,I7,n7⟩:=q7; exact again I7 n7
  | cont=>obtain ⟨σ7,H7,I7,n7⟩:=q7; exact again I7 n7
  | brk=>obtain ⟨σ7,H7,I7,q7⟩:=q7; exact ⟨σ7,H7,I7.unpinned,q7⟩
  | ret v=>obtain ⟨x7,σ7,H7,I7,r7,q7⟩:=q7; exact ⟨x7,σ7,H7,I7.unpinned,r7,q7⟩
end
noncomputable abbrev R2:=V->V->Hp->VK->Prop
noncomputable def OpR (X:Cx) (f:Value->Value->Sem Value) (r:R2):Prop :=
 ∀ (pins:List (Addr×Obj)) (s:Shared) (σ : St) (H:Hp) (x y:V) (v u:Value) (Q:VK),Inv X pins σ H s->RelV x v->RelV y u->r x y H Q ->
  wpAny (model X.prog X.w) X.A (f v u) (EP X pins σ Q) X.xe s
noncomputable def UnR (X:Cx) (f:Value->Sem Value) (r:V->Hp->VK->Prop):Prop :=
 ∀ (pins:List (Addr×Obj)) (s:Shared) (σ : St) (H:Hp) (x:V) (v:Value) (Q:VK),Inv X pins σ H s->RelV x v->r x H Q ->
  wpAny (model X.prog X.w) X.A (f v) (EP X pins σ Q) X.xe s
noncomputable def CallR (X:Cx) (f:Value) (r:List V->Hp->VK->Prop):Prop :=
 ∀ (pins:List (Addr×Obj)) (s:Shared) (σ : St) (H:Hp) (xs:List V) (us:List Value) (Q:VK),Inv X pins σ H s->Vals xs us->r xs H Q ->
  wpAny (model X.prog X.w) X.A (call f us) (EP X pins σ Q) X.xe s
noncomputable def tOp (r:R2) (ta tb:TE):TE:=fun σ H Q=>ta σ H fun x H1=>tb σ H1 fun y H2=>r x y H2 Q
noncomputable def tUn (r:V->Hp->VK->Prop) (ta:TE):TE:=fun σ H Q=>ta σ H fun x H1=>r x H1 Q
noncomputable def rI (C:Int->Int->Prop) (g:Int->Int->V):R2:=fun x y H Q=>∃ i j,x = .int i/\y = .int j/\C i j/\Q (g i j) H
noncomputable def rI0 (g:Int->Int->V):R2:=fun x y H Q=>∃ i j,x = .int i/\y = .int j/\Q (g i j) H
noncomputable def rU (g:Int->V):V->Hp->VK->Prop:=fun x H Q=>∃ i,x = .int i/\Q (g i) H
section
variable {X:Cx} {a b c:Expr} {ta tb tc:TE} {pos:Pos}
theorem binT (ha:PE X a ta) (hb:PE X b tb) {pins:List (Addr×Obj)} {s:Shared} {σ : St} {H:Hp} {R:V->V->Hp->Prop} (I:Inv X pins σ H s)
  (h:ta σ H fun x H1=>tb σ H1 fun y H2=>R x y H2) {Q:Value->Shared->Prop} {f:Value->Value->Sem Value}
  (hf:∀ v u s2 x y H2,Inv X pins σ H2 s2->RelV x v->RelV y u->R x y H2->wpAny (model X.prog X.w) X.A (f v u) Q X.xe s2) :
  wpAny (model X.prog X.w) X.A (eval a X.env) (fun v s₁ => wpAny (model X.prog X.w) X.A (eval b X.env) (fun u s₂ => wpAny (model X.prog X.w) X.A (f v u) Q X.xe s₂) X.xe s₁) X.xe s:=by
 refine thnE (ha pins s σ H _ I h) fun v s1 x H1 I1 r1 q1 => ?_
 refine thnE (hb pins s1 σ H1 _ I1 q1) fun u s2 y H2 I2 r2 q2 => ?_
 exact hf v u s2 x y H2 I2 r1 r2 q2
theorem zax {op:Operator} {r:R2} (ho:OpR X (binaryOp op) r) (ha:PE X a ta) (hb:PE X b tb):PE X (.BinOp a op b pos) (tOp r ta tb):=by
 intro pins s σ H Q I h
 exact wpAny_BinOp (binT ha hb I h fun v u s2 x y H2 I2 rx ry q=>ho pins s2 σ H2 x y v u Q I2 rx ry q)
theorem zgT {op:UnaryOp} {r:V->Hp->VK->Prop} (ho:UnR X (unaryOp op) r) (ha:PE X a ta):PE X (.UnaryOp op a pos) (tUn r ta):=by
 intro pins s σ H Q I h
 exact UnaryOp_ (thnE (ha pins s σ H _ I h) fun v s1 x H1 I1 r1 q1=>ho pins s1 σ H1 x v Q I1 r1 q1)
theorem opI {f:Value->Value->Sem Value} {C:Int->Int->Prop} {g:Int->Int->Int}
  (rule:∀ (i j:Int) (t u:Tok) (s:Shared) (Q:Value->Shared->Prop) (E:Value->Shared->Prop),C i j->Q (.int (g i j) s.toks) { s with toks:=s.toks + 1 }->wpAny (model X.prog X.w) X.A (f (.int i t) (.int j u)) Q E s) :
  OpR X f (rI C fun i j => .int (g i j)):=by
 intro pins s σ H x y v u Q I rx ry h
 obtain ⟨i,j,rfl,rfl,hc,q⟩:=h
 obtain ⟨t,rfl⟩:=rx
 obtain ⟨t',rfl⟩:=ry
 exact rule i j t t' s _ _ hc ⟨.int (g i j),H,I.tok _,⟨_,rfl⟩,q⟩
theorem opI0 {f:Value->Value->Sem Value} {g:Int->Int->Int}
  (rule:∀ (i j:Int) (t u:Tok) (s:Shared) (Q:Value->Shared->Prop) (E:Value->Shared->Prop),Q (.int (g i j) s.toks) { s with toks:=s.toks + 1 }->wpAny (model X.prog X.w) X.A (f (.int i t) (.int j u)) Q E s) :
  OpR X f (rI0 fun i j => .int (g i j)):=by
 intro pins s σ H x y v u Q I rx ry h
 obtain ⟨i,j,rfl,rfl,q⟩:=h
 obtain ⟨t,rfl⟩:=rx
 obtain ⟨t',rfl⟩:=ry
 exact rule i j t t' s _ _ ⟨.int (g i j),H,I.tok _,⟨_,rfl⟩,q⟩
theorem opB0 {f:Value->Value->Sem Value} {g:Int->Int->Bool}
  (rule:∀ (i j:Int) (t u:Tok) (s:Shared) (Q:Value->Shared->Prop) (E:Value->Shared->Prop),Q (.bool (g i j)) s->wpAny (model X.prog X.w) X.A (f (.int i t) (.int j u)) Q E s) :
  OpR X f (rI0 fun i j => .bl (g i j)):=by
 intro pins s σ H x y v u Q I rx ry h
 obtain ⟨i,j,rfl,rfl,q⟩:=h
 obtain ⟨t,rfl⟩:=rx
 obtain ⟨t',rfl⟩:=ry
 exact rule i j t t' s _ _ ⟨.bl (g i j),H,I,rfl,q⟩
noncomputable def CDiv (i j:Int):Prop:=0 < j/\j < 1073741824
noncomputable def CMul (i j:Int):Prop:=(-(2 ^ 64) < i/\i < 2 ^ 64)\/(-(2 ^ 64) < j/\j < 2 ^ 64)
theorem CMul.ok {i j:Int} (h:CMul i j):IntMulOk i j:=by
 rcases h with ⟨h1,h2⟩ | ⟨h1,h2⟩
 ·exact .of_left (intBits_le_64 h1 h2)
 ·exact .of_right (intBits_le_64 h1 h2)
theorem two_pow_nn (k:Nat):(0:Int)<=2 ^ k:=by
 rw [two_pow_cast]
 exact Int.natCast_nonneg _
theorem zbp:OpR X (binaryOp .Add) (rI0 fun i j => .int (i + j)):=opI0 fun _ _ _ _ _ _ _ q=>add_int q
theorem zg3:OpR X (binaryOp .Sub) (rI0 fun i j => .int (i - j)):=opI0 fun _ _ _ _ _ _ _ q=>sub_int q
theorem zew:OpR X (binaryOp .Mult) (rI CMul fun i j => .int (i * j)):=opI fun _ _ _ _ _ _ _ hc q=>mul_int q hc.ok
theorem zcd:OpR X (binaryOp .FloorDiv) (rI CDiv fun i j => .int (i / j)):=opI fun i j _ _ _ _ _ hc q=>by
 have h1:(0:Int) < j:=hc.1
 have h2:j < 1073741824:=hc.2
 exact floordiv_int (by omega) (by rw [Int.fdiv_eq_ediv_of_nonneg i (by omega)]; exact q) (.inl (PyProof.noPylong_small (by omega)))
theorem zbl:OpR X (binaryOp .Mod) (rI (fun _ j=>0 < j) fun i j => .int (i % j)):=opI fun i j _ _ _ _ _ hc q=>by
 have h1:(0:Int) < j:=hc
 exact mod_int' (by omega) (by rw [Int.fmod_eq_emod_of_nonneg i (by omega)]; exact q)
theorem op_shr:OpR X (binaryOp .RShift) (rI (fun _ j=>0<=j) fun i j => .int (i / 2 ^ j.toNat)):=opI fun i j _ _ _ _ _ hc q =>
 rshift_int hc (by rw [Int.fdiv_eq_ediv_of_nonneg i (two_pow_nn _)]; exact q)
theorem zg4:OpR X (binaryOp .BitAnd) (rI0 fun i j => .int (Builtin.bitAnd i j)):=opI0 fun _ _ _ _ _ _ _ q=>and_int q
theorem unI {f:Value->Sem Value} {g:Int->Int}
  (rule:∀ (i:Int) (t:Tok) (s:Shared) (Q:Value->Shared->Prop) (E:Value->Shared->Prop),Q (.int (g i) s.toks) { s with toks:=s.toks + 1 }->wpAny (model X.prog X.w) X.A (f (.int i t)) Q E s) :
  UnR X f (rU fun i => .int (g i)):=by
 intro pins s σ H x v Q I rx h
 obtain ⟨i,rfl,q⟩:=h
 obtain ⟨t,rfl⟩:=rx
 exact rule i t s _ _ ⟨.int (g i),H,I.tok _,⟨_,rfl⟩,q⟩
theorem zfg:UnR X (unaryOp .USub) (rU fun i => .int (-i)):=unI fun _ _ _ _ _ q=>neg_int q
end
noncomputable def scal:V->V->Bool
 | .non,.non=>true | .non,.int _=>true | .int _,.non=>true | .non,.bl _=>true | .bl _,.non=>true | .non,.str _=>true | .str _,.non=>true
 | .int _,.int _=>true | .bl _,.bl _=>true | .str _,.str _=>true | .byt _,.byt _=>true
 | .int _,.str _=>true | .str _,.int _=>true | .bl _,.str _=>true | .str _,.bl _=>true
 | _,_=>false
noncomputable def rEq:R2:=fun x y H Q=>scal x y=true/\Q (.bl (decide (x=y))) H
noncomputable def rNe:R2:=fun x y H Q=>scal x y=true/\Q (.bl (!decide (x=y))) H
theorem zgI {i j:Int}:decide (V.int i=V.int j)=(i == j):=by
 rw [Bool.eq_iff_iff]
 simp
theorem zhf {i j:Bool}:decide (V.bl i=V.bl j)=(i == j):=by
 rw [Bool.eq_iff_iff]
 simp
theorem zgG {i j:Str}:decide (V.str i=V.str j)=(i == j):=by
 rw [Bool.eq_iff_iff]
 simp
theorem zgJ {i j:Array UInt8}:decide (V.byt i=V.byt j)=(i.toList == j.toList):=by
 rw [Bool.eq_iff_iff]
 cases i
 cases j
 simp
section
variable {X:Cx} {a b c:Expr} {ta tb tc:TE} {pos:Pos}
theorem zaG {pins:List (Addr×Obj)} {σ : St} {H:Hp} {s:Shared} {Q:VK} {k k':Bool} (I:Inv X pins σ H s) (q:Q (.bl k) H) (e:k=k'):EP X pins σ Q (.bool k') s:=by
 subst e
 exact ⟨.bl k,H,I,rfl,q⟩
theorem zb6:OpR X (compareOp .Eq) rEq:=by
 intro pins s σ H x y v u Q I rx ry h
 obtain ⟨hs,q⟩:=h
 cases x with
 | non =>
  cases rx
  cases y with
  | non=>cases ry; exact PySem.EqNone.eq_none_none (zaG I q (by simp))
  | bl j=>cases ry; exact PySem.EqNone.eq_none_bool (zaG I q (by simp))
  | int j=>obtain ⟨t',rfl⟩:=ry; exact PySem.EqNone.eq_none_int (zaG I q (by simp))
  | str j=>obtain ⟨t',rfl⟩:=ry; exact PySem.EqNone.eq_none_str (zaG I q (by simp))
  | _=>exact absurd (show false=true from hs) Bool.false_ne_true
 | bl i =>
  cases rx
  cases y with
  | non=>cases ry; exact PySem.EqNone.eq_bool_none (zaG I q (by simp))
  | bl j=>cases ry; exact eq_bool (zaG I q zhf)
  | str j=>obtain ⟨t',rfl⟩:=ry; exact PySem.EqMixed.eq_bool_str (zaG I q (by simp))
  | _=>exact absurd (show false=true from hs) Bool.false_ne_true
 | int i =>
  obtain ⟨t,rfl⟩:=rx
  cases y with
  | non=>cases ry; exact PySem.EqNone.eq_int_none (zaG I q (by simp))
  | int j=>obtain ⟨t',rfl⟩:=ry; exact eq_int (zaG I q zgI)
  | str j=>obtain ⟨t',rfl⟩:=ry; exact PySem.EqMixed.eq_int_str (zaG I q (by simp))
  | _=>exact absurd (show false=true from hs) Bool.false_ne_true
 | str i =>
  obtain ⟨t,rfl⟩:=rx
  cases y with
  | non=>cases ry; exact PySem.EqNone.eq_str_none (zaG I q (by simp))
  | bl j=>cases ry; exact PySem.EqMixed.eq_str_bool (zaG I q (by simp))
  | int j=>obtain ⟨t',rfl⟩:=ry; exact PySem.EqMixed.eq_str_int (zaG I q (by simp))
  | str j=>obtain ⟨t',rfl⟩:=ry; exact eq_str (zaG I q zgG)
  | _=>exact absurd (show false=true from hs) Bool.false_ne_true
 | byt i =>
  obtain ⟨t,rfl⟩:=rx
  cases y with
  | byt j=>obtain ⟨t',rfl⟩:=ry; exact PySem.W.eq_bytes (zaG I q zgJ)
  | _=>exact absurd (show false=true from hs) Bool.false_ne_true
 | _=>cases y <;> exact absurd (show false=true from hs) Bool.false_ne_true
theorem zev:OpR X (compareOp .NotEq) rNe:=by
 intro pins s σ H x y v u Q I rx ry h
 obtain ⟨hs,q⟩:=h
 cases x with
 | non =>
  cases rx
  cases y with
  | non=>cases ry; exact PySem.EqNone.ne_none_none (zaG I q (by simp))
  | bl j=>cases ry; exact PySem.EqNone.ne_none_bool (zaG I q (by simp))
  | int j=>obtain ⟨t',rfl⟩:=ry; exact PySem.EqNone.ne_none_int (zaG I q (by simp))
  | str j=>obtain ⟨t',rfl⟩:=ry; exact PySem.EqNone.ne_none_str (zaG I q (by simp))
  | _=>exact absurd (show false=true from hs) Bool.false_ne_true
 | bl i =>
  cases rx
  cases y with
  | non=>cases ry; exact PySem.EqNone.ne_bool_none (zaG I q (by simp))
  | bl j=>cases ry; exact ne_bool (zaG I q (congrArg not zhf))
  | str j=>obtain ⟨t',rfl⟩:=ry; exact PySem.EqMixed.ne_bool_str (zaG I q (by simp))
  | _=>exact absurd (show false=true from hs) Bool.false_ne_true
 | int i =>
  obtain ⟨t,rfl⟩:=rx
  cases y with
  | non=>cases ry; exact PySem.EqNone.ne_int_none (zaG I q (by simp))
  | int j=>obtain ⟨t',rfl⟩:=ry; exact ne_int (zaG I q (congrArg not zgI))
  | str j=>obtain ⟨t',rfl⟩:=ry; exact PySem.EqMixed.ne_int_str (zaG I q (by simp))
  | _=>exact absurd (show false=true from hs) Bool.false_ne_true
 | str i =>
  obtain ⟨t,rfl⟩:=rx
  cases y with
  | non=>cases ry; exact PySem.EqNone.ne_str_none (zaG I q (by simp))
  | bl j=>cases ry; exact PySem.EqMixed.ne_str_bool (zaG I q (by simp))
  | int j=>obtain ⟨t',rfl⟩:=ry; exact PySem.EqMixed.ne_str_int (zaG I q (by simp))
  | str j=>obtain ⟨t',rfl⟩:=ry; exact ne_str (zaG I q (congrArg not zgG))
  | _=>exact absurd (show false=true from hs) Bool.false_ne_true
 | byt i =>
  obtain ⟨t,rfl⟩:=rx
  cases y with
  | byt j=>obtain ⟨t',rfl⟩:=ry; exact PySem.W.ne_bytes (zaG I q (congrArg not zgJ))
  | _=>exact absurd (show false=true from hs) Bool.false_ne_true
 | _=>cases y <;> exact absurd (show false=true from hs) Bool.false_ne_true
theorem zhA:OpR X (compareOp .Lt) (rI0 fun i j => .bl (decide (i < j))):=opB0 fun _ _ _ _ _ _ _ q=>lt_int q
theorem zdo:OpR X (compareOp .LtE) (rI0 fun i j => .bl (decide (i<=j))):=opB0 fun _ _ _ _ _ _ _ q=>le_int q
theorem zhp:OpR X (compareOp .Gt) (rI0 fun i j => .bl (decide (j < i))):=opB0 fun _ _ _ _ _ _ _ q=>gt_int q
theorem zhB:OpR X (compareOp .GtE) (rI0 fun i j => .bl (decide (j<=i))):=opB0 fun _ _ _ _ _ _ _ q=>ge_int q
theorem zaw (b:Expr) {op:CmpOp} (h:op ≠ .In:=by decide) (h2:op ≠ .NotIn:=by decide):behindInMarks op b=false:=by
 have e1:(op == CmpOp.In)=false:=by cases op <;> first | rfl | exact absurd rfl h
 have e2:(op == CmpOp.NotIn)=false:=by cases op <;> first | rfl | exact absurd rfl h2
 cases b <;> simp [behindInMarks,e1,e2]
theorem zcc {op:CmpOp} {r:R2} (ho:OpR X (compareOp op) r) (ha:PE X a ta) (hb:PE X b tb) (hm:behindInMarks op b=false):PE X (.Compare a [op] [b] pos) (tOp r ta tb):=by
 intro pins s σ H Q I h
 exact wpAny_Compare1 (binT ha hb I h fun v u s2 x y H2 I2 rx ry q=>ho pins s2 σ H2 x y v u Q I2 rx ry q) hm
noncomputable def tTest (t:TE):TT:=fun σ H Q=>t σ H fun x H'=>∃ k,x = .bl k/\Q k H'
theorem zar {op:CmpOp} {r:R2} (ho:OpR X (compareOp op) r) (ha:PE X a ta) (hb:PE X b tb) (hm:behindInMarks op b=false):PT X (.Compare a [op] [b] pos) (tTest (tOp r ta tb)):=by
 intro pins s σ H Q I h
 refine wpAny_isTrue_Compare1 (thnE (ha pins s σ H _ I h) fun v s1 x H1 I1 r1 q1=>thnE (hb pins s1 σ H1 _ I1 q1) fun u s2 y H2 I2 r2 q2 =>
  thnE (ho pins s2 σ H2 x y v u _ I2 r1 r2 q2) fun c s3 z H3 I3 r3 ⟨k,e,q3⟩ => ?_) hm
 subst e
 cases r3
 exact wpAny_truthy_bool ⟨H3,I3,q3⟩
noncomputable def tChain (r r':R2) (ta tb tc:TE):TE:=fun σ H Q=>ta σ H fun x H1=>tb σ H1 fun y H2=>r x y H2 fun z H3=>∃ k,z = .bl k /\
 (if k=true then tc σ H3 fun w' H4=>r' y w' H4 Q else Q (.bl false) H3)
theorem zfA {op op':CmpOp} {r r':R2} (ho:OpR X (compareOp op) r) (ho':OpR X (compareOp op') r') (ha:PE X a ta) (hb:PE X b tb) (hc:PE X c tc)
  (hm:lastMarks [op,op'] [b,c]=false:=by with_unfolding_all rfl):PE X (.Compare a [op,op'] [b,c] pos) (tChain r r' ta tb tc):=by
 intro pins s σ H Q I h
 refine Compare_chain (thnE (ha pins s σ H _ I h) fun v s1 x H1 I1 r1 q1=>chain_link (thnE (hb pins s1 σ H1 _ I1 q1) fun u s2 y H2 I2 r2 q2 =>
  thnE (ho pins s2 σ H2 x y v u _ I2 r1 r2 q2) fun d s3 z H3 I3 r3 ⟨k,e,q3⟩ => ?_)) hm
 subst e
 cases r3
 refine wpAny_truthy_bool ?_
 cases k with
 | false=>exact ite_ff ⟨.bl false,H3,I3,rfl,q3⟩
 | true=>exact ite_tt (chain_last (thnE (hc pins s3 σ H3 _ I3 q3) fun w' s4 z' H4 I4 r4 q4=>ho' pins s4 σ H4 y z' u w' Q I4 r2 r4 q4))
theorem zcU {op op':CmpOp} {r r':R2} (ho:OpR X (compareOp op) r) (ho':OpR X (compareOp op') r') (ha:PE X a ta) (hb:PE X b tb) (hc:PE X c tc)
  (hm:lastMarks [op,op'] [b,c]=false:=by with_unfolding_all rfl):PT X (.Compare a [op,op'] [b,c] pos) (tTest (tChain r r' ta tb tc)):=by
 intro pins s σ H Q I h
 refine isTrue_chain (thnE (ha pins s σ H _ I h) fun v s1 x H1 I1 r1 q1=>test_link (thnE (hb pins s1 σ H1 _ I1 q1) fun u s2 y H2 I2 r2 q2 =>
  thnE (ho pins s2 σ H2 x y v u _ I2 r1 r2 q2) fun d s3 z H3 I3 r3 ⟨k,e,q3⟩ => ?_)) hm
 subst e
 cases r3
 refine wpAny_truthy_bool ?_
 cases k with
 | false =>
  obtain ⟨k',e',q'⟩:=q3
  cases e'
  exact ite_ff ⟨H3,I3,q'⟩
 | true =>
  refine ite_tt (test_last (thnE (hc pins s3 σ H3 _ I3 q3) fun w' s4 z' H4 I4 r4 q4=>thnE (ho' pins s4 σ H4 y z' u w' _ I4 r2 r4 q4) fun d' s5 z2 H5 I5 r5 ⟨k2,e2,q5⟩ => ?_))
  subst e2
  cases r5
  exact wpAny_truthy_bool ⟨H5,I5,q5⟩
theorem zdG:(sizeLine:Nat) < 2 ^ 63:=by rw [sizeLine_eq]; decide
theorem op_add_str:OpR X (binaryOp .Add) (fun x y H Q=>∃ i j,x = .str i/\y = .str j/\i.length + j.length<=sizeLine/\Q (.str (i ++ j)) H):=by
 intro pins s σ H x y v u Q I rx ry h
 obtain ⟨i,j,rfl,rfl,hz,q⟩:=h
 obtain ⟨t,rfl⟩:=rx
 obtain ⟨t',rfl⟩:=ry
 exact add_str (fun t' tk=>⟨.str (i ++ j),H,I.tok _,⟨_,rfl⟩,q⟩) hz
theorem zcS {x:V} {us:List Value} (r:Vals [x] us):∃ u,us = [u]/\RelV x u:=by
 cases r with
 | cons r1 r2=>cases r2; exact ⟨_,rfl,r1⟩
theorem zht {x y:V} {us:List Value} (r:Vals [x,y] us):∃ u w',us = [u,w']/\RelV x u/\RelV y w':=by
 cases r with
 | cons r1 r2 =>
  cases r2 with
  | cons r3 r4=>cases r4; exact ⟨_,_,rfl,r1,r3⟩
end
structure ObjM (h:Heap) (x dx C:Addr) (mA:Str->Option Value):Prop where
 obj:h.get? x=some (PySem.W.instObj C dx)
 ns:h.Ns1 dx mA
 ne:dx≠x
theorem lookIn_ns {h:Heap} {dx:Addr} {mA:Str->Option Value} (n:h.Ns1 dx mA):∃ od,h.get? dx=some od/\∀ name,PySem.W.lookIn name od=some (mA name):=by
 obtain ⟨o,es,ep,ho,hd,hk,_,hm⟩:=n
 refine ⟨o,ho,fun name => ?_⟩
 have e:=hm name
 unfold nsFind findBy at e
 rw [<- Array.find?_toList] at e
 unfold PySem.W.lookIn
 rw [hd]
 dsimp only
 split
 ·rename_i y q
  rw [q] at e
  exact congrArg some e
 ·rename_i q
  rw [q] at e
  have a:es.toList.any (·.refKey)=false:=by
   rw [List.any_eq_false]
   intro y hy
   obtain ⟨z,t,hkey⟩:=hk y (Array.mem_toList_iff.mp hy)
   simp [DictEntry.refKey,hkey]
  have a':¬ es.toList.any (·.refKey)=true:=by rw [a]; exact Bool.false_ne_true
  rw [if_neg a']
  exact congrArg some e
theorem ObjM.look {h:Heap} {x dx C:Addr} {mA:Str->Option Value} (I:ObjM h x dx C mA):∃ od,PySem.W.InstAt h x (PySem.W.instObj C dx) C (some od)/\∀ name,PySem.W.lookIn name od=some (mA name) :=
 let ⟨od,ho,hl⟩:=lookIn_ns I.ns
 ⟨od,⟨I.obj,rfl,rfl,ho⟩,hl⟩
section
variable {prog:Program} {w:World} {A:Around} {E:Value->Shared->Prop} {s:Shared} {K:W.Frag} {x dx C f:Addr} {mA:Str->Option Value} {name:Str} {v:Value}
theorem get_map {expr:Bool} {Q:Value->Shared->Prop} (X:K.In s.heap) (I:ObjM s.heap x dx C mA) (hg:PySem.W.plainGet K C name=true) (hh:PySem.W.hasDictIn K C=true)
  (ha:PySem.W.findIn K (.ref C) name=some none) (hv:mA name=some v) (hv':PySem.W.handedIn v=true) (h:Q v { s with toks:=s.toks + 1 }) :
  wpAny (model prog w) A (getAttr (.ref x) name expr) Q E s:=by
 obtain ⟨od,J,hl⟩:=I.look
 exact PySem.W.get_value X J (PySem.W.plainGet_of hg).1 (PySem.W.findObj_own hh ha rfl (by rw [hl,hv])) hv' h
theorem get_meth {pl:Sem Bool} {Q:Value×List Value->Shared->Prop} (X:K.In s.heap) (I:ObjM s.heap x dx C mA) (hg:PySem.W.plainGet K C name=true)
  (hf:PySem.W.findIn K (.ref C) name=some (some (.ref f))) (ht:PySem.W.isFn K (.ref f)=true) (hv:mA name=none) (h:Q (.ref f,[.ref x]) s) :
  wpAny (model prog w) A (getMethod (.ref x) name pl) Q E s:=by
 obtain ⟨od,J,hl⟩:=I.look
 exact PySem.W.method_fn X J (PySem.W.plainGet_of hg).1 (PySem.W.plainGet_of hg).2 hf (beq_iff_eq.mp ht) (by show (PySem.W.lookIn name od).map (·.isSome)=some false; rw [hl,hv]; rfl) h
theorem set_map {ns:List Str} {Q:Unit->Shared->Prop} (X:K.In s.heap) (I:ObjM s.heap x dx C mA)
  (hs:PySem.W.findIn K (.ref C) "__setattr__" = some (some (.builtin "object.__setattr__"))) (hp:PySem.W.plainOver K C=true) (ht:PySem.W.takerIn K C name=some none) (hh:PySem.W.hasDictIn K C=true)
  (hw:PySem.Within mA ns) (hsz:ns.length<=sizeLine)
  (h:∀ h',ObjM h' x dx C (fun y=>if y=name then some v else mA y)->Heap.SameBut dx s.heap h'->Q () { s with heap:=h',toks:=s.toks + 2 }) :
  wpAny (model prog w) A (setAttr (.ref x) name v) Q E s:=by
 obtain ⟨od,J,hl⟩:=I.look
 refine PySem.W.set_plain X J hs (PySem.W.osa_open (s:={ s with toks:=s.toks + 1 }) (r:=none) X J hp ht fun b => ?_)
 obtain ⟨cd,hc,hd'⟩:=PySem.W.any_some hh
 have hx:s.heap.get? x=some ⟨.ref C,some dx,.plain,#[]⟩:=I.obj
 refine wpAny_bind (wpAny_pure (wpAny_bind (wpAny_bind (wpAny_loadPart hx (wpAny_bind (PySem.W.Looks.here (s:={ s with toks:=s.toks + 1 }) (PySem.W.looks_clsIn X hc) ?_))))))
 rw [hd']
 refine wpAny_pure (a:=some dx) (wpAny_bind (wpAny_pure (wpAny_bind ?_)))
 refine wpAny_nsSet1 (s:={ s with toks:=s.toks + 1 }) I.ns fun h' hn2 hs2 => ?_
 obtain ⟨oD,esD,epD,hoD,hdD,hcD⟩:=hn2.count (PySem.Within.cons name v hw)
 refine wpAny_bind (wpAny_lookBehind hoD (by rw [hdD]; exact pastItsLine_dict (Nat.le_trans hcD (by rw [List.length_cons]; omega))) ?_)
 exact wpAny_pure (h _ ⟨(hs2.2 _ (Ne.symm I.ne)).trans I.obj,hn2,I.ne⟩ hs2)
theorem make_map {R:Result->Shared->Prop} {vs:List Value} {kw:List (Str×Value)} (X:K.In s.heap) (hm:PySem.W.makesIn K C=true)
  (hi:PySem.W.findIn K (.ref C) "__init__" = some (some (.ref f))) (hf:PySem.W.typeIn K (.ref f)=some (.type "function"))
  (h:codeAny (model prog w) (A.under (.builtin "type.__call__" ⟨.ref C :: vs,kw⟩)) (.call (.ref f) ⟨.ref (s.heap.objs.size + 1) :: vs,kw⟩) (PySem.W.InitBack (s.heap.objs.size + 1) R)
   { s with heap:=(s.heap.push PySem.W.emptyDict).push (PySem.W.instObj C s.heap.objs.size) }) :
  codeAny (model prog w) A (.call (.ref C) ⟨vs,kw⟩) R s:=by
 obtain ⟨hh,g,d,t,os⟩:=s
 exact PySem.W.make_core (PySem.W.makes_of X hm) (PySem.W.looks_findIn X hi) (fun self=>PySem.W.bind_fn X self hf) (.inl rfl) h
end
noncomputable def putF (f:Str) (v:V):List (Str×V)->List (Str×V)
 | [] => [(f,v)]
 | (g,x) :: r=>if g=f then (g,v) :: r else (g,x) :: putF f v r
theorem zc8 (f g:Str) (v:V):∀ fs:List (Str×V),(putF f v fs).lookup g=if g=f then some v else fs.lookup g
 | []=>by
  show List.lookup g [(f,v)]=_
  by_cases h:g=f
  ·have hb:(g == f)=true:=beq_iff_eq.mpr h
   simp only [List.lookup,hb,if_pos h]
  ·have hb:(g == f)=false:=beq_eq_false_iff_ne.mpr h
   simp only [List.lookup,hb,if_neg h]
 | (k,x) :: r=>by
  have ih:=zc8 f g v r
  rw [show putF f v ((k,x) :: r)=(if k=f then (k,v) :: r else (k,x) :: putF f v r) from rfl]
  by_cases hk:k=f
  ·rw [if_pos hk]
   by_cases h:g=k
   ·have hb:(g == k)=true:=beq_iff_eq.mpr h
    simp only [List.lookup,hb,if_pos (h.trans hk)]
   ·have hb:(g == k)=false:=beq_eq_false_iff_ne.mpr h
    simp only [List.lookup,hb,if_neg (fun e:g=f=>h (e.trans hk.symm))]
  ·rw [if_neg hk]
   by_cases h:g=k
   ·have hb:(g == k)=true:=beq_iff_eq.mpr h
    simp only [List.lookup,hb,if_neg (fun e:g=f=>hk (h.symm.trans e))]
   ·have hb:(g == k)=false:=beq_eq_false_iff_ne.mpr h
    simp only [List.lookup,hb]
    exact ih
theorem zdb (f:Str) (v:V):∀ fs:List (Str×V),f∈(putF f v fs).map (·.1)/\∀ g,g∈fs.map (·.1)->g∈(putF f v fs).map (·.1)
 | []=>⟨by simp [putF],fun g h=>by simp at h⟩
 | (k,x) :: r=>by
  obtain ⟨i1,i2⟩:=zdb f v r
  rw [show putF f v ((k,x) :: r)=(if k=f then (k,v) :: r else (k,x) :: putF f v r) from rfl]
  by_cases hk:k=f
  ·rw [if_pos hk]
   subst hk
   exact ⟨by simp,fun g h=>by simpa using h⟩
  ·rw [if_neg hk]
   refine ⟨?_,fun g h => ?_⟩
   ·rw [List.map_cons]
    exact List.mem_cons_of_mem _ i1
   ·rw [List.map_cons] at h ⊢
    rcases List.mem_cons.mp h with e | e
    ·exact List.mem_cons.mpr (.inl e)
    ·exact List.mem_cons_of_mem _ (i2 g e)
theorem zc9 (f:Str) (v:V):∀ fs:List (Str×V),(putF f v fs).length<=fs.length + 1
 | []=>by simp [putF]
 | (k,x) :: r=>by
  have ih:=zc9 f v r
  rw [show putF f v ((k,x) :: r)=(if k=f then (k,v) :: r else (k,x) :: putF f v r) from rfl]
  by_cases hk:k=f
  ·rw [if_pos hk,List.length_cons,List.length_cons]; omega
  ·rw [if_neg hk,List.length_cons,List.length_cons]; omega
theorem RelO.some_of {v:V} {o:Option Value} (r:RelO (some v) o):∃ u,o=some u/\RelV v u:=by
 cases o with
 | none=>exact (show False from r).elim
 | some u=>exact ⟨u,rfl,r⟩
theorem RelO.none_of {o:Option Value} (r:RelO none o):o=none:=by
 cases o with
 | none=>rfl
 | some u=>exact (show False from r).elim
theorem handed_of {v:V} {u:Value} (r:RelV v u):PySem.W.handedIn u=true:=by
 cases v with
 | non=>cases (show u=Value.none from r); rfl
 | bl b=>cases (show u=Value.bool b from r); rfl
 | int i=>obtain ⟨t,e⟩:=(show ∃ t,u=Value.int i t from r); cases e; rfl
 | str x=>obtain ⟨t,e⟩:=(show ∃ t,u=Value.str x t from r); cases e; rfl
 | byt b=>obtain ⟨t,e⟩:=(show ∃ t,u=Value.bytes b t from r); cases e; rfl
 | flt b=>obtain ⟨t,e⟩:=(show ∃ t,u=Value.float b t from r); cases e; rfl
 | ref a=>cases (show u=Value.ref a from r); rfl
 | ty n=>cases (show u=Value.type n from r); rfl
section
variable {P:Program} {w:World} {H H':Hp} {h h':Heap} {a C dx:Addr} {fs fs':List (Str×V)}
theorem zed (hok:HOk P w H h) (e:H a=some (.ins C dx fs)):∃ mA,ObjM h a dx C mA/\(∀ f,RelO (fs.lookup f) (mA f))/\PySem.Within mA (fs.map (·.1))/\fs.length<=1000/\H dx=some (.own a):=by
 obtain ⟨d,z,ne,ob,mA,n,r,q⟩:=(show ObjOk P w H h a (.ins C dx fs) from hok a _ e)
 exact ⟨mA,⟨ob,n,ne⟩,r,q,z,d⟩
end
structure Cls (K:W.Frag) (C:Addr):Prop where
 pg:PySem.W.plainGet K C Str.empty=true
 hd:PySem.W.hasDictIn K C=true
 po:PySem.W.plainOver K C=true
 sa:PySem.W.findIn K (.ref C) "__setattr__" = some (some (.builtin "object.__setattr__"))
theorem Cls.get {K:W.Frag} {C:Addr} (c:Cls K C) (f:Str):PySem.W.plainGet K C f=true:=c.pg
noncomputable def NoAttr (K:W.Frag) (C:Addr) (f:Str):Prop:=PySem.W.findIn K (.ref C) f=some none
theorem NoAttr.taker {K:W.Frag} {C:Addr} {f:Str} (n:NoAttr K C f):PySem.W.takerIn K C f=some none:=by
 unfold PySem.W.takerIn
 rw [show PySem.W.findIn K (.ref C) f=some none from n]
 rfl
structure Meth (K:W.Frag) (C:Addr) (m:Str) (f:Addr):Prop where
 at_:PySem.W.findIn K (.ref C) m=some (some (.ref f))
 fn:PySem.W.isFn K (.ref f)=true
 kp:PySem.W.keepIn K (.ref f)=true
section
variable {X:Cx} {pins:List (Addr×Obj)} {σ : St} {H:Hp} {s:Shared} {a C dx:Addr} {fs:List (Str×V)} {f:Str} {v:V} {A:Around} {E:Value->Shared->Prop}
theorem getattr_ok {b:Bool} {Q:Value->Shared->Prop} (I:Inv X pins σ H s) (e:H a=some (.ins C dx fs)) (c:Cls X.K C) (n:NoAttr X.K C f) (l:fs.lookup f=some v)
  (h:∀ u s',Inv X pins σ H s'->RelV v u->Q u s'):wpAny (model X.prog X.w) A (getAttr (.ref a) f b) Q E s:=by
 obtain ⟨mA,O,r,_,_,_⟩:=zed I.hok e
 obtain ⟨u,hu,ru⟩:=RelO.some_of (v:=v) (o:=mA f) (by rw [<- l]; exact r f)
 exact get_map I.kIn O (c.get f) c.hd n hu (handed_of ru) (h u _ (I.tok _) ru)
theorem zdM {m:Str} {g:Addr} {pl:Sem Bool} {Q:Value×List Value->Shared->Prop} (I:Inv X pins σ H s) (e:H a=some (.ins C dx fs)) (c:Cls X.K C) (k:Meth X.K C m g) (l:fs.lookup m=none)
  (h:Q (.ref g,[.ref a]) s):wpAny (model X.prog X.w) A (getMethod (.ref a) m pl) Q E s:=by
 obtain ⟨mA,O,r,_,_,_⟩:=zed I.hok e
 have hn:mA m=none:=RelO.none_of (by rw [<- l]; exact r m)
 exact get_meth I.kIn O (c.get m) k.at_ k.fn hn h
theorem setattr_ok {y:V} {u:Value} {Q:Unit->Shared->Prop} (I:Inv X pins σ H s) (e:H a=some (.ins C dx fs)) (c:Cls X.K C) (n:NoAttr X.K C f) (hl:fs.length < 1000) (ry:RelV y u)
  (h:∀ s',Inv X pins σ (upd H a (.ins C dx (putF f y fs))) s'->Q () s'):wpAny (model X.prog X.w) A (setAttr (.ref a) f u) Q E s:=by
 obtain ⟨mA,O,r,wi,_,ho⟩:=zed I.hok e
 have hz:(fs.map (·.1)).length<=sizeLine:=by rw [List.length_map,sizeLine_eq]; omega
 refine set_map I.kIn O c.sa c.po n.taker c.hd wi hz fun h' O' sb=>h _ ?_
 have hd:∃ o,h'.get? dx=some o:=let ⟨o,_,_,e',_⟩:=O'.ns; ⟨o,e'⟩
 refine I.write (x:=a) (e:=dx) (by rw [e]; exact True.intro) (.inr ho) (fun b q hb z=>(sb.2 b hb).trans z) hd ?_
 refine ⟨by rw [zah O.ne]; exact ho,?_,O.ne,O'.obj,_,O'.ns,fun g => ?_,fun g hg => ?_⟩
 ·have:=zc9 f y fs; omega
 ·show RelO ((putF f y fs).lookup g) (if g=f then some u else mA g)
  rw [zc8]
  by_cases q:g=f
  ·rw [if_pos q,if_pos q]; exact ry
  ·rw [if_neg q,if_neg q]; exact r g
 ·by_cases q:g=f
  ·rw [q]; exact (zdb f y fs).1
  ·refine (zdb f y fs).2 g (wi g fun z=>hg ?_)
   show (if g=f then some u else mA g)=none
   rw [if_neg q]; exact z
theorem Inv.made (I:Inv X pins σ H s):Inv X pins σ (upd (upd H s.heap.objs.size (.own (s.heap.objs.size + 1))) (s.heap.objs.size + 1) (.ins C s.heap.objs.size []))
  { s with heap:=(s.heap.push PySem.W.emptyDict).push (PySem.W.instObj C s.heap.objs.size) }:=by
 have e1:(s.heap.push PySem.W.emptyDict).get? s.heap.objs.size=some PySem.W.emptyDict:=Heap.get?_push_size s.heap rfl
 have e2:((s.heap.push PySem.W.emptyDict).push (PySem.W.instObj C s.heap.objs.size)).get? (s.heap.objs.size + 1)=some (PySem.W.instObj C s.heap.objs.size):=by
  have:=Heap.get?_push_size (s.heap.push PySem.W.emptyDict) (o:=PySem.W.instObj C s.heap.objs.size) rfl
  rwa [Heap.size_push] at this
 have e3:(s.heap.push PySem.W.emptyDict).Ns s.heap.objs.size (fun _=>none):=⟨PySem.W.emptyDict,#[],_,e1,rfl,(fun e he=>absurd he (by simp)),fun _=>rfl⟩
 have I1:=I.laid (a:=s.heap.objs.size) (o := .own (s.heap.objs.size + 1)) (h':=s.heap.push PySem.W.emptyDict) (t':=s.toks) (fun b u q=>Heap.get?_push_of_some _ q) (Nat.le_refl _) ⟨_,e1⟩
 refine I1.laid (a:=s.heap.objs.size + 1) (o := .ins C s.heap.objs.size []) (t':=s.toks) (fun b u q=>Heap.get?_push_of_some _ q) (Nat.le_of_eq (Heap.size_push _ _)) ?_
 have ne:s.heap.objs.size≠s.heap.objs.size + 1:=Nat.ne_of_lt (Nat.lt_succ_self _)
 refine ⟨by rw [zah ne,zaf],Nat.zero_le _,ne,e2,fun _=>none,(Heap.Ns1.of_empty e3).at fun o q=>Heap.get?_push_of_some _ q,fun _=>True.intro,fun y hy=>absurd rfl hy⟩
theorem attr_of {prog:Program} {w:World} {env:Env} {e:Expr} {f:Str} {pos:Pos} {s:Shared} {Q:Value->Shared->Prop} (hb:attributeBase e f env (eval e env)=eval e env)
  (h:wpAny (model prog w) A (eval e env) (fun o s₁ => wpAny (model prog w) A (getAttr o f true) Q E s₁) E s):wpAny (model prog w) A (eval (.Attribute e f pos) env) Q E s :=
 Attribute_any_ h (by rw [arm_eval_Attribute,hb])
end
noncomputable def tFld (K:W.Frag) (ta:TE) (f:Str):TE:=fun σ H Q=>ta σ H fun x H1=>∃ a C dx fs v,x = .ref a/\H1 a=some (.ins C dx fs)/\Cls K C/\NoAttr K C f/\fs.lookup f=some v/\Q v H1
noncomputable def sFld (K:W.Frag) (ta tv:TE) (f:Str):TS:=fun D σ H=>tv σ H fun y H1=>ta σ H1 fun x H2=>∃ a C dx fs,x = .ref a/\H2 a=some (.ins C dx fs)/\Cls K C/\NoAttr K C f/\fs.length < 1000 /\
 D.nx σ (upd H2 a (.ins C dx (putF f y fs)))
section
variable {X:Cx} {o e value:Expr} {f:Str} {pos pos' tpos:Pos} {ta tv:TE}
theorem zbW (he:PE X e ta) (hb:attributeBase e f X.env (eval e X.env)=eval e X.env):PE X (.Attribute e f pos) (tFld X.K ta f):=by
 intro pins s σ H Q I h
 refine attr_of hb (thnE (he pins s σ H _ I h) fun u s1 x H1 I1 rx ⟨a,C,dx,fs,v,ex,ea,c,n,l,q⟩ => ?_)
 subst ex
 obtain rfl:u=Value.ref a:=rx
 exact getattr_ok I1 ea c n l fun u' s2 I2 ru=>⟨v,H1,I2,ru,q⟩
theorem zgd (ha:PE X o ta) (hv:PE X value tv) (hs:swapsWith value (some (.Attribute o f pos')) pos.line X.env=pure false):PS X (.Assign [.Attribute o f pos'] value pos) (sFld X.K ta tv f):=by
 intro pins s σ H D I h
 refine plainObj_wpAny_Assign_Attribute (thnE (hv pins s σ H _ I h) fun u s1 y H1 I1 ry q=>thnE (ha pins s1 σ H1 _ I1 q) fun ov s2 x H2 I2 rx ⟨a,C,dx,fs,ex,ea,c,n,l,q2⟩ => ?_) hs
 subst ex
 obtain rfl:ov=Value.ref a:=rx
 exact setattr_ok I2 ea c n l ry fun s3 I3=>⟨σ,_,I3,q2⟩
end
section
variable {X:Cx} {pins:List (Addr×Obj)} {σ : St} {H:Hp} {s:Shared} {A:Around} {E:Value->Shared->Prop} {Q:Value->Shared->Prop} {c:Value} {b:Bool}
inductive TyOf (K:W.Frag) (H:Hp):V->Value->Prop where
 | non:TyOf K H .non (.type "NoneType")
 | bl (x:Bool):TyOf K H (.bl x) (.type "bool")
 | int (i:Int):TyOf K H (.int i) (.type "int")
 | str (x:Str):TyOf K H (.str x) (.type "str")
 | flt (x:UInt64):TyOf K H (.flt x) (.type "float")
 | lst {a:Addr} {xs:List V} (e:H a=some (.lst xs)):TyOf K H (.ref a) (.type "list")
 | frz {a:Addr} {o:Obj} {xs:List V} (e:H a=some (.frz o (.lst xs))):TyOf K H (.ref a) (.type "list")
 | tup {a:Addr} {xs:List V} (e:H a=some (.tup xs)):TyOf K H (.ref a) (.type "tuple")
 | dK {a:Addr} {kvs:List (Key×V)} (e:H a=some (.dK kvs)):TyOf K H (.ref a) (.type "dict")
 | dT {a:Addr} {kvs:List (List Key×V)} (e:H a=some (.dT kvs)):TyOf K H (.ref a) (.type "dict")
 | ins {a C dx:Addr} {fs:List (Str×V)} (e:H a=some (.ins C dx fs)) (cl:Cls K C) (ha:PySem.W.findIn K (.ref C) "__class__" = some (some (.builtin "object.__class__")))
   (hn:PySem.W.specialIn K (.builtin "object.__class__") "__get__" = some (some (.builtin "getset_descriptor.__get__"))) (htk:PySem.W.takesIn K (.builtin "object.__class__")=some true)
   (hm:PySem.W.mroIn K C (.type "object")=some true):TyOf K H (.ref a) (.ref C)
theorem isinst_ok {x:V} {u t:Value} (I:Inv X pins σ H s) (rx:RelV x u) (ty:TyOf X.K H x t) (e:PySem.W.kitOne X.K t c=some b) (h:∀ tk,Q (.bool b) { s with toks:=tk }) :
  wpAny (model X.prog X.w) A (call (.builtin "isinstance") [u,c]) Q E s:=by
 cases ty with
 | non=>cases (show u=Value.none from rx); exact PySem.W.kia_one PySem.W.kitx_none I.kIn True.intro e (fun z=>nomatch z) h
 | bl y=>cases (show u=Value.bool y from rx); exact PySem.W.kia_one PySem.W.kitx_bool I.kIn True.intro e (fun z=>nomatch z) h
 | int i=>obtain ⟨t,q⟩:=(show ∃ t,u=Value.int i t from rx); cases q; exact PySem.W.kia_one PySem.W.kitx_int I.kIn True.intro e (fun z=>nomatch z) h
 | str y=>obtain ⟨t,q⟩:=(show ∃ t,u=Value.str y t from rx); cases q; exact PySem.W.kia_one PySem.W.kitx_str I.kIn True.intro e (fun z=>nomatch z) h
 | flt y=>obtain ⟨t,q⟩:=(show ∃ t,u=Value.float y t from rx); cases q; exact PySem.W.kia_one PySem.W.kitx_float I.kIn True.intro e (fun z=>nomatch z) h
 | @lst a xs ea =>
  cases (show u=Value.ref a from rx)
  obtain ⟨_,_,n,_,h1⟩:=(show ObjOk X.prog X.w H s.heap a (.lst xs) from I.hok a _ ea)
  exact PySem.W.kia_one PySem.W.kitx_list I.kIn ⟨_,h1,rfl⟩ e (fun z=>nomatch z) h
 | @frz a ob xs ea =>
  cases (show u=Value.ref a from rx)
  obtain ⟨_,_,_,n,_,h1⟩:=(show ObjOk X.prog X.w H s.heap a (.frz ob (.lst xs)) from I.hok a _ ea)
  exact PySem.W.kia_one PySem.W.kitx_list I.kIn ⟨_,h1,rfl⟩ e (fun z=>nomatch z) h
 | @tup a xs ea =>
  cases (show u=Value.ref a from rx)
  obtain ⟨_,_,_,p⟩:=(show ObjOk X.prog X.w H s.heap a (.tup xs) from I.hok a _ ea)
  obtain ⟨o,h1,h2,_⟩:=p
  exact PySem.W.kia_one PySem.W.kitx_tuple I.kIn ⟨o,h1,h2⟩ e (fun z=>nomatch z) h
 | @dK a kvs ea =>
  cases (show u=Value.ref a from rx)
  obtain ⟨_,_,vs,_,p⟩:=(show ObjOk X.prog X.w H s.heap a (.dK kvs) from I.hok a _ ea)
  obtain ⟨o,es,ep,h1,h2,_⟩:=p
  exact PySem.W.kia_one PySem.W.kitx_dict I.kIn ⟨o,h1,h2.1⟩ e (fun z=>nomatch z) h
 | @dT a kvs ea =>
  cases (show u=Value.ref a from rx)
  obtain ⟨_,_,xs,_,o,es,ep,h1,h2,_⟩:=(show ObjOk X.prog X.w H s.heap a (.dT kvs) from I.hok a _ ea)
  exact PySem.W.kia_one PySem.W.kitx_dict I.kIn ⟨o,h1,h2.1⟩ e (fun z=>nomatch z) h
 | @ins a C dx fs ea cl ha hn htk hm =>
  cases (show u=Value.ref a from rx)
  obtain ⟨mA,O,_⟩:=zed I.hok ea
  obtain ⟨od,J,_⟩:=O.look
  exact PySem.W.kia_one (PySem.W.kitx_own (cl.get _) cl.hd ha hn htk hm) I.kIn J e (fun z=>nomatch z) h
end
structure Room (k:Nat) (A:Around):Prop where
 hd:A.handled=none
 dp:A.depth + 3 * k + 5 < recursionLimit
 un:A.units + 16 * k + 200 < cLine
theorem Room.mono {j k:Nat} {A:Around} (r:Room k A) (h:j<=k):Room j A:=⟨r.hd,by have:=r.dp; omega,by have:=r.un; omega⟩
theorem Room.deeper {k:Nat} {A:Around} (r:Room (k + 1) A) (env:Env):Room k (A.deeper env) :=
 ⟨r.hd,by have:=r.dp; show A.depth + 1 + 3 * k + 5 < _; omega,by have:=r.un; show A.units + 3 + 16 * k + 200 < _; omega⟩
theorem make_depth {A:Around} {C:Addr} {us:List Value} {kw:List (Str×Value)}:(A.under (.builtin "type.__call__" ⟨.ref C :: us,kw⟩)).depth=A.depth + 1:=by
 first | rfl | simp [Around.under,Code.weight,Code.isCreation,Code.isGuard,Code.isCaller,Code.frames,Code.isFrame,guardIds]
theorem make_units {A:Around} {C:Addr} {us:List Value} {kw:List (Str×Value)}:(A.under (.builtin "type.__call__" ⟨.ref C :: us,kw⟩)).units=A.units + 1:=by
 first | rfl | simp [Around.under,Code.cUnits,Code.frames,Code.isFrame]
theorem Room.make {k:Nat} {A:Around} (r:Room (k + 1) A) (C:Addr) (us:List Value) (kw:List (Str×Value)):Room k (A.under (.builtin "type.__call__" ⟨.ref C :: us,kw⟩)) :=
 ⟨r.hd,by have:=r.dp; rw [make_depth]; omega,by have:=r.un; rw [make_units]; omega⟩
theorem Room.depth {k:Nat} {A:Around} (r:Room k A):A.depth < recursionLimit:=by have:=r.dp; omega
theorem Room.units {k:Nat} {A:Around} (r:Room k A):A.units + 64 < cLine:=by have:=r.un; omega
noncomputable def tNil:TA:=fun _ H Q=>Q [] H
noncomputable def tCons (ta:TE) (tr:TA):TA:=fun σ H Q=>ta σ H fun x H1=>tr σ H1 fun xs H2=>Q (x :: xs) H2
section
variable {X:Cx} {e:Expr} {es:List Expr} {te:TE} {t:TA} {pos:Pos}
theorem zac:PA X [] tNil:=fun _ _ _ _ H Q I h=>Calls.spliced_nil ⟨[],H,I,.nil,h⟩
theorem zaa (ha:PE X e te) (hr:PA X es t) (hs:starEach (e :: es) X.env=(false,eval e X.env) :: starEach es X.env:=by rfl):PA X (e :: es) (tCons te t):=by
 intro pos pins s σ H Q I h
 rw [hs]
 show wpAny _ _ (spliced ((false,eval e X.env) :: backTo pos (starEach es X.env))) _ _ s
 refine Calls.spliced_cons (thnE (ha pins s σ H _ I h) fun u s1 x H1 I1 r1 q1 => ?_)
 exact thnE (hr pos pins s1 σ H1 _ I1 q1) fun us s2 xs H2 I2 r2 q2=>⟨x :: xs,H2,I2,.cons r1 r2,q2⟩
noncomputable def tTup (t:TA):TE:=fun σ H Q=>t σ H fun xs H1=>xs.length<=sizeLine/\∀ p,H1 p=none->Q (.ref p) (upd H1 p (.tup xs))
noncomputable def tLst (t:TA):TE:=fun σ H Q=>t σ H fun xs H1=>xs.length<=sizeLine/\∀ p,H1 p=none->Q (.ref p) (upd H1 p (.lst xs))
theorem zbR {x1} (h:PA X es t):PE X (.Tuple es x1 pos) (tTup t):=by
 intro pins s σ H Q I hq
 refine wpAny_Tuple_spliced (thnE (h pos pins s σ H _ I hq) fun us s1 xs H1 I1 r ⟨z,q⟩=>⟨by rw [<- r.length]; exact z,?_⟩)
 have hf:H1 s1.heap.objs.size=none:=I1.hok.fresh (Nat.le_refl _)
 refine ⟨.ref s1.heap.objs.size,upd H1 s1.heap.objs.size (.tup xs),I1.laid (t':=s1.toks) (fun b u e=>Heap.get?_push_of_some _ e) (Nat.le_refl _) ?_,rfl,q _ hf⟩
 exact ⟨z,us,r,⟨_,Heap.get?_push_size _ rfl,rfl,_,rfl⟩⟩
theorem zaU (h:PA X es t):PE X (.List es pos) (tLst t):=by
 intro pins s σ H Q I hq
 refine wpAny_List_spliced (thnE (h pos pins s σ H _ I hq) fun us s1 xs H1 I1 r ⟨z,q⟩=>⟨by rw [<- r.length]; exact z,?_⟩)
 have hf:H1 s1.heap.objs.size=none:=I1.hok.fresh (Nat.le_refl _)
 refine ⟨.ref s1.heap.objs.size,upd H1 s1.heap.objs.size (.lst xs),I1.laid (t':=s1.toks) (fun b u e=>Heap.get?_push_of_some _ e) (Nat.le_refl _) ?_,rfl,q _ hf⟩
 exact ⟨z,us,0,r,Heap.get?_push_size _ rfl⟩
end
noncomputable abbrev Sp:=List V->Hp->VK->XK->Prop
noncomputable abbrev CXT:=List Env->Hp->Shared->XK->Value->Shared->Prop
structure Env0 (P:Program) (w:World) (K:W.Frag) (mg:Str->Option Value) (base:Heap) (A:Around) (outer:List Env) (s:Shared) (H:Hp):Prop where
 frames:A.frames=some outer
 mod:Mod K mg base
 bs:∀ b o,base.get? b=some o->s.heap.get? b=some o/\H b=none
 bsz:base.objs.size<=s.heap.objs.size
 funs:s.heap.FunFrames base outer
 frf:∀ b∈frs outer,H b=none
 hok:HOk P w H s.heap
 bare:AllBare s.gens
noncomputable def CE (outer:List Env) (P:Program) (w:World) (H:Hp) (s:Shared) (Q:VK) (u:Value) (s':Shared):Prop :=
 ∃ v H',s'.os=s.os/\AllBare s'.gens/\Un (frs outer) [] H H' s.heap s'.heap/\HOk P w H' s'.heap/\RelV v u/\Q v H'
noncomputable def CR (CX:CXT) (outer:List Env) (P:Program) (w:World) (H:Hp) (s:Shared) (Q:VK) (E:XK) (r:Result) (s':Shared):Prop :=
 match r with
 | .ok (.ret u)=>CE outer P w H s Q u s'
 | .ok _=>False
 | .error e=>CX outer H s E e s'
structure FnOk (P:Program) (w:World) (K:W.Frag) (mg:Str->Option Value) (base:Heap) (CX:CXT) (k:Nat) (f:Addr) (fd:FuncData) (ps:List Str) (sp:Sp):Prop where
 len:∀ vs H Q E,sp vs H Q E->vs.length=ps.length
 run:∀ (A:Around) (outer:List Env) (s:Shared) (H:Hp) (args:Args) (us:List Value) (vs:List V) (Q:VK) (E:XK),Room k A->Env0 P w K mg base A outer s H->BindsTo s fd args (ps.zip us)->Vals vs us->sp vs H Q E ->
  codeAny (model P w) A (.call (.ref f) args) (CR CX outer P w H s Q E) s
theorem Env0.make {P:Program} {w:World} {K:W.Frag} {mg:Str->Option Value} {base:Heap} {A:Around} {outer:List Env} {s:Shared} {H:Hp} (e:Env0 P w K mg base A outer s H) (C:Addr) (us:List Value) (kw:List (Str×Value)) :
  Env0 P w K mg base (A.under (.builtin "type.__call__" ⟨.ref C :: us,kw⟩)) outer s H:=⟨by first | exact e.frames | (simpa [Around.under,Code.envs,Code.isFrame,pushEnvs] using e.frames),e.mod,e.bs,e.bsz,e.funs,e.frf,e.hok,e.bare⟩
section
variable {X:Cx} {pins:List (Addr×Obj)} {σ : St} {H:Hp} {s s':Shared}
theorem Inv.env0 (I:Inv X pins σ H s):Env0 X.prog X.w X.K X.mg X.base X.A X.stack s H :=
 ⟨I.ok.frames,I.ok.mod,I.bs,Nat.le_trans I.ok.bsz I.sz,I.stack,I.stkFree,I.hok,I.bare⟩
theorem Inv.after {Q:VK} {u:Value} (I:Inv X pins σ H s) (h:CE X.stack X.prog X.w H s Q u s'):EP X pins σ Q u s':=by
 obtain ⟨v,H',os,bare,un,hok,r,q⟩:=h
 obtain ⟨hh,g,d,t,os'⟩:=s'
 obtain rfl:os'=s.os:=os
 exact ⟨v,H',I.call (h':=hh) (g':=g) (d':=d) (t':=t) (ch := []) un hok bare (fun b z=>absurd z (by simp)),r,q⟩
end
noncomputable def tCall (sp:Sp) (dvs:List V) (E:XK) (t:TA):TE:=fun σ H Q=>t σ H fun vs H1=>sp (vs ++ dvs) H1 Q E
noncomputable def tMeth (C:Addr) (m:Str) (sp:Sp) (dvs:List V) (E:XK) (ta:TE) (t:TA):TE:=fun σ H Q=>ta σ H fun x H1=>∃ a dx fs,x = .ref a/\H1 a=some (.ins C dx fs)/\fs.lookup m=none /\
 t σ H1 fun vs H2=>sp (x :: (vs ++ dvs)) H2 Q E
noncomputable def tMake (C:Addr) (sp:Sp) (dvs:List V) (E:XK) (t:TA):TE:=fun σ H Q=>t σ H fun vs H1=>∀ x dx,H1 x=none->H1 dx=none->dx≠x ->
 sp (.ref x :: (vs ++ dvs)) (upd (upd H1 dx (.own x)) x (.ins C dx [])) (fun v H2=>v = .non/\Q (.ref x) H2) E
noncomputable def Binds (K:W.Frag) (fd:FuncData) (ps:List Str) (ds:List Value):Prop :=
 ∀ (s:Shared) (us:List Value),K.In s.heap->(us ++ ds).length=ps.length->BindsTo s fd ⟨us,[]⟩ (ps.zip (us ++ ds))
theorem Binds.all {K:W.Frag} {fd:FuncData} {ps:List Str} (h:∀ us:List Value,us.length=ps.length->bindArgs fd ⟨us,[]⟩=pure (ps.zip us)):Binds K fd ps []:=fun s us _ hl=>by
 rw [List.append_nil] at hl ⊢
 exact .of_eq (h us hl)
noncomputable def Passes (CX:CXT) (X:Cx) (E:XK):Prop:=∀ (pins:List (Addr×Obj)) (σ : St) (H:Hp) (s:Shared) (e:Value) (s':Shared),Inv X pins σ H s->CX X.stack H s E e s'->X.xe e s'
section
variable {X:Cx} {CX:CXT} {k:Nat} {f C:Addr} {fd:FuncData} {ps:List Str} {sp:Sp} {dvs:List V} {ds:List Value} {E:XK} {x m:Str} {p pos apos:Pos} {e o:Expr} {es:List Expr} {ta:TE} {t:TA}
theorem zf5 {pins:List (Addr×Obj)} {σ : St} {H:Hp} {s:Shared} {Q:VK} {us:List Value} {vs:List V} (F:FnOk X.prog X.w X.K X.mg X.base CX k f fd ps sp) (hr:Room k X.A) (hb:Binds X.K fd ps ds) (hd:Vals dvs ds) (hx:Passes CX X E)
  (I:Inv X pins σ H s) (r:Vals vs us) (h:sp (vs ++ dvs) H Q E):wpAny (model X.prog X.w) X.A (call (.ref f) us) (EP X pins σ Q) X.xe s:=by
 have r2:Vals (vs ++ dvs) (us ++ ds):=r.append hd
 have hl:(us ++ ds).length=ps.length:=by rw [<- r2.length]; exact F.len _ _ _ _ h
 refine wpAny_call (codeAny_mono (F.run X.A X.stack s H ⟨us,[]⟩ (us ++ ds) (vs ++ dvs) Q E hr I.env0 (hb s us I.kIn hl) r2 h) fun r s' hq => ?_)
 cases r with
 | error e=>exact hx pins σ H s e s' I hq
 | ok fl =>
  cases fl with
  | ret u=>exact I.after hq
  | next=>exact False.elim hq
  | brk=>exact False.elim hq
  | cont=>exact False.elim hq
theorem zgj (F:FnOk X.prog X.w X.K X.mg X.base CX k f fd ps sp) (hr:Room k X.A) (hg:Gl X x) (hm:X.mg x=some (.ref f)) (hk:PySem.W.keepIn X.K (.ref f)=true) (hb:Binds X.K fd ps ds) (hd:Vals dvs ds) (hx:Passes CX X E)
  (ha:PA X (e :: es) t) (hdb:(x == ("__debug__" : Str))=false:=by decide) (he:starEach (e :: es) X.env=(false,eval e X.env) :: starEach es X.env:=by rfl) (hpl:(backTo pos (starEach es X.env)).any (·.1)=false:=by rfl) :
  PE X (.Call (.Name x p) (e :: es) [] pos) (tCall sp dvs E t):=by
 intro pins s σ H Q I h
 refine wpAny_Call_Name_kw (zcJ I hg hm ?_ hdb)
 refine PySem.W.callWith_K (h₀ := X.base) I.ok.mod.kin hk (thnE (ha pos pins s σ H _ I h) fun us s1 vs H1 I1 r q=>⟨I1.kIn,?_⟩) he hpl
 exact zf5 F hr hb hd hx I1 r q
theorem pe_meth {pl:Sem Bool} (he:PE X o ta) (c:Cls X.K C) (hm:Meth X.K C m f) (F:FnOk X.prog X.w X.K X.mg X.base CX k f fd ps sp) (hr:Room k X.A) (hb:Binds X.K fd ps ds) (hd:Vals dvs ds) (hx:Passes CX X E) (ha:PA X (e :: es) t)
  (hst:starEach (e :: es) X.env=(false,eval e X.env) :: starEach es X.env:=by rfl) (hpl:(backTo pos (starEach es X.env)).any (·.1)=false:=by rfl)
  (ht:eval (.Call (.Attribute o m apos) (e :: es) [] pos) X.env=(do
   let ov <- eval o X.env
   standAt apos.atName
   let (f,first) <- holding [ov] (getMethod ov m pl)
   callWith pos f first (backTo pos (starEach (e :: es) X.env)) (backToKw pos (keywordEach [] X.env))):=by rfl) :
  PE X (.Call (.Attribute o m apos) (e :: es) [] pos) (tMeth C m sp dvs E ta t):=by
 intro pins s σ H Q I h
 refine PySem.W.methodCall_KW (pl:=pl) (thnE (he pins s σ H _ I h) fun u s1 x H1 I1 rx ⟨a,dx,fs,ex,ea,l,q⟩ => ?_) ht
 subst ex
 obtain rfl:u=Value.ref a:=rx
 refine zdM I1 ea c hm l ?_
 refine PySem.W.callWith_K (first := [.ref a]) (h₀ := X.base) I.ok.mod.kin hm.kp (thnE (ha pos pins s1 σ H1 _ I1 q) fun us s2 vs H2 I2 r q2=>⟨I2.kIn,?_⟩) hst hpl
 exact zf5 (us := .ref a :: us) (vs := .ref a :: vs) F hr hb hd hx I2 (.cons rfl r) q2
theorem pe_meth0 {pl:Sem Bool} (he:PE X o ta) (c:Cls X.K C) (hm:Meth X.K C m f) (F:FnOk X.prog X.w X.K X.mg X.base CX k f fd ps sp) (hr:Room k X.A) (hb:Binds X.K fd ps ds) (hd:Vals dvs ds) (hx:Passes CX X E)
  (ht:eval (.Call (.Attribute o m apos) [] [] pos) X.env=(do
   let ov <- eval o X.env
   standAt apos.atName
   let (f,first) <- holding [ov] (getMethod ov m pl)
   callWith pos f first (backTo pos (starEach [] X.env)) (backToKw pos (keywordEach [] X.env))):=by rfl) :
  PE X (.Call (.Attribute o m apos) [] [] pos) (tMeth C m sp dvs E ta tNil):=by
 intro pins s σ H Q I h
 refine PySem.W.methodCall_KW (pl:=pl) (thnE (he pins s σ H _ I h) fun u s1 x H1 I1 rx ⟨a,dx,fs,ex,ea,l,q⟩ => ?_) ht
 subst ex
 obtain rfl:u=Value.ref a:=rx
 refine zdM I1 ea c hm l ?_
 exact PySem.W.callWith_K0 (first := [.ref a]) I1.kIn hm.kp (zf5 (us := [.ref a]) (vs := [.ref a]) F hr hb hd hx I1 (.cons rfl .nil) q)
structure Mk (K:W.Frag) (C f:Addr):Prop where
 makes:PySem.W.makesIn K C=true
 init:PySem.W.findIn K (.ref C) "__init__" = some (some (.ref f))
 fn:PySem.W.isFn K (.ref f)=true
 kp:PySem.W.keepIn K (.ref C)=true
theorem run_make {pins:List (Addr×Obj)} {σ : St} {H:Hp} {s:Shared} {Q:VK} {us:List Value} {vs:List V} (M:Mk X.K C f) (F:FnOk X.prog X.w X.K X.mg X.base CX k f fd ps sp) (hr:Room (k + 1) X.A) (hb:Binds X.K fd ps ds) (hd:Vals dvs ds)
  (hx:Passes CX X E) (I:Inv X pins σ H s) (r:Vals vs us)
  (h:∀ x dx,H x=none->H dx=none->dx≠x->sp (.ref x :: (vs ++ dvs)) (upd (upd H dx (.own x)) x (.ins C dx [])) (fun v H2=>v = .non/\Q (.ref x) H2) E) :
  wpAny (model X.prog X.w) X.A (call (.ref C) us) (EP X pins σ Q) X.xe s:=by
 have hq:=h (s.heap.objs.size + 1) s.heap.objs.size (I.hok.fresh (Nat.le_succ _)) (I.hok.fresh (Nat.le_refl _)) (Nat.ne_of_lt (Nat.lt_succ_self _))
 have I2:=Inv.made (C:=C) I
 have r2:Vals (V.ref (s.heap.objs.size + 1) :: (vs ++ dvs)) (Value.ref (s.heap.objs.size + 1) :: (us ++ ds)) := .cons rfl (r.append hd)
 have hl:(Value.ref (s.heap.objs.size + 1) :: us ++ ds).length=ps.length:=by
  have e:=r2.length
  rw [F.len _ _ _ _ hq] at e
  exact e.symm
 refine wpAny_call (make_map (f:=f) I.kIn M.makes M.init (beq_iff_eq.mp M.fn) (codeAny_mono (F.run _ X.stack _ _ ⟨Value.ref (s.heap.objs.size + 1) :: us,[]⟩ (Value.ref (s.heap.objs.size + 1) :: (us ++ ds)) _ _ E (hr.make C us [])
  (I2.env0.make C us []) (hb _ (Value.ref (s.heap.objs.size + 1) :: us) I2.kIn hl) r2 hq) fun r s' hq' => ?_))
 cases r with
 | error e=>exact hx pins σ _ _ e s' I2 hq'
 | ok fl =>
  cases fl with
  | ret u =>
   obtain ⟨v,H',I3,rv,ev,q3⟩:=I2.after hq'
   subst ev
   exact ⟨rv,⟨V.ref (s.heap.objs.size + 1),H',I3,rfl,q3⟩⟩
  | next=>exact False.elim hq'
  | brk=>exact False.elim hq'
  | cont=>exact False.elim hq'
theorem pe_make0 (M:Mk X.K C f) (F:FnOk X.prog X.w X.K X.mg X.base CX k f fd ps sp) (hr:Room (k + 1) X.A) (hg:Gl X x) (hm:X.mg x=some (.ref C)) (hb:Binds X.K fd ps ds) (hd:Vals dvs ds) (hx:Passes CX X E)
  (hdb:(x == ("__debug__" : Str))=false:=by decide):PE X (.Call (.Name x p) [] [] pos) (tMake C sp dvs E tNil):=by
 intro pins s σ H Q I h
 refine wpAny_Call_Name_kw (zcJ I hg hm ?_ hdb)
 exact PySem.W.callWith_K0 I.kIn M.kp (run_make (us := []) M F hr hb hd hx I .nil h)
end
section
variable {X:Cx} {CX:CXT} {k:Nat} {f C:Addr} {fd:FuncData} {ps ks:List Str} {sp:Sp} {E:XK} {x m:Str} {p pos apos kpos:Pos} {e o:Expr} {es:List Expr} {kws:List Keyword} {te ta:TE} {t tk:TA} {nm:Option Str}
variable {g:List Value->List Value->List Value} {gV:List V->List V->List V}
end
structure FnScope (N P:List Str) (sc:Scope):Prop where
 kind:sc.kind = .function
 co:sc.isCoroutine=false
 gen:sc.isGenerator=false
 nd:N.Nodup
 pre:N.take P.length=P
 par:∀ x∈P,sc.names.lookup x=some .local\/sc.names.lookup x=some .cell
 nofree:∀ y∈sc.names,y.2 ≠ .free
theorem zeQ {kindOf:Str->Option NameKind} {x:Str}:∀ {binds:List (Str×Value)} {m:Str->Option Value},(∀ v,(x,v) ∉ binds)->bindL kindOf binds m x=m x
 | [],_,_=>rfl
 | (n,v) :: r,m,h=>by
  unfold bindL
  rw [zeQ fun w hw=>h w (List.mem_cons_of_mem _ hw)]
  split
  ·have:x≠n:=by rintro rfl; exact h v List.mem_cons_self
   simp [this]
  ·rfl
theorem zeS {kindOf:Str->Option NameKind} {x:Str}:∀ {binds:List (Str×Value)} {m:Str->Option Value},(∀ v,(x,v) ∉ binds)->bindC kindOf binds m x=m x
 | [],_,_=>rfl
 | (n,v) :: r,m,h=>by
  unfold bindC
  rw [zeS fun w hw=>h w (List.mem_cons_of_mem _ hw)]
  split
  ·rfl
  ·have:x≠n:=by rintro rfl; exact h v List.mem_cons_self
   simp [this]
theorem zeR {kindOf:Str->Option NameKind} {x:Str} {v:Value}:∀ {P:List Str} {vs:List Value} {i:Nat} {m:Str->Option Value},P.Nodup->P[i]?=some x->vs[i]?=some v->kindOf x=some .local ->
  bindL kindOf (P.zip vs) m x=some v
 | [],_,_,_,_,h,_,_=>by simp at h
 | _ :: _,[],_,_,_,_,h,_=>by simp at h
 | p :: P,w :: vs,0,m,nd,h1,h2,hk=>by
  simp at h1 h2; subst h1; subst h2
  show bindL kindOf ((p,w) :: P.zip vs) m p=_
  unfold bindL
  rw [zeQ fun v hv=>(List.nodup_cons.mp nd).1 (List.of_mem_zip hv).1,if_pos hk]
  simp
 | p :: P,w :: vs,i + 1,m,nd,h1,h2,hk=>by
  show bindL kindOf ((p,w) :: P.zip vs) m x=_
  unfold bindL
  exact zeR (i:=i) (List.nodup_cons.mp nd).2 (by simpa using h1) (by simpa using h2) hk
theorem zeT {kindOf:Str->Option NameKind} {x:Str} {v:Value}:∀ {P:List Str} {vs:List Value} {i:Nat} {m:Str->Option Value},P.Nodup->P[i]?=some x->vs[i]?=some v->kindOf x≠some .local ->
  bindC kindOf (P.zip vs) m x=some v
 | [],_,_,_,_,h,_,_=>by simp at h
 | _ :: _,[],_,_,_,_,h,_=>by simp at h
 | p :: P,w :: vs,0,m,nd,h1,h2,hk=>by
  simp at h1 h2; subst h1; subst h2
  show bindC kindOf ((p,w) :: P.zip vs) m p=_
  unfold bindC
  rw [zeS fun v hv=>(List.nodup_cons.mp nd).1 (List.of_mem_zip hv).1,if_neg hk]
  simp
 | p :: P,w :: vs,i + 1,m,nd,h1,h2,hk=>by
  show bindC kindOf ((p,w) :: P.zip vs) m x=_
  unfold bindC
  exact zeT (i:=i) (List.nodup_cons.mp nd).2 (by simpa using h1) (by simpa using h2) hk
noncomputable def start (N:List Str) (vs:List V):St:=vs.map some ++ List.replicate (N.length - vs.length) none
noncomputable def cxOf (CX:CXT) (P:Program) (w:World) (K:W.Frag) (mg:Str->Option Value) (base:Heap) (N:List Str) (qual:Str) (scope:Scope) (f:Addr) (cd:Value) (A:Around) (outer:List Env) (s:Shared) (H:Hp) (E:XK):Cx where
 prog:=P
 w:=w
 K:=K
 mg:=mg
 base:=base
 A:=A.deeper (envOfC qual scope s.heap.objs.size f cd)
 N:=N
 s₀ := s
 H₀ := H
 env:=envOfC qual scope s.heap.objs.size f cd
 outer:=outer
 stack:=envOfC qual scope s.heap.objs.size f cd :: outer
 ex := []
 calm:=true
 fn:=fun _=>true
 pn := []
 xe:=fun e s'=>wpAny (model P w) (A.deeper (envOfC qual scope s.heap.objs.size f cd)) (leaving (envOfC qual scope s.heap.objs.size f cd) e) (fun _ s''=>CX outer H s E e s'') (fun e' s''=>CX outer H s E e' s'') s'
theorem zfO {sc:Scope} {n:Nat} {x:Str} (h:sc.names.lookup x=some .cell):∃ c,(cellsFrom n sc.names []).lookup x=some c:=by
 have q:=PySem.W.cellsFrom_some sc.names n [] (.inl h)
 exact Option.isSome_iff_exists.mp q
theorem zeF {CX:CXT} {P:Program} {w:World} {K:W.Frag} {mg:Str->Option Value} {base:Heap} {N ps:List Str} {qual:Str} {scope:Scope} {f:Addr} {cd:Value} {A:Around} {outer:List Env} {s s1:Shared} {H:Hp} {E:XK} {us:List Value} {vs:List V}
  (S:FnScope N ps scope) (hd:A.handled=none) (e0:Env0 P w K mg base A outer s H) (hl:vs.length=ps.length) (r:Vals vs us)
  (x:InCallC s s.heap.objs.size (bindL (envOfC qual scope s.heap.objs.size f cd).kindOf (ps.zip us) fun _=>none) (cellsFrom (s.heap.objs.size + 1) scope.names []) (bindC (envOfC qual scope s.heap.objs.size f cd).kindOf (ps.zip us) fun _=>none) s1) :
  Inv (cxOf CX P w K mg base N qual scope f cd A outer s H E) [] (start N vs) H s1:=by
 have hpl:ps.length<=N.length:=by have:=congrArg List.length S.pre; rw [List.length_take] at this; omega
 obtain ⟨h1,tk,rfl,hk⟩:=x.done
 have noA:∀ b:Addr,b ∉ (cxOf CX P w K mg base N qual scope f cd A outer s H E).ex:=fun b z=>absurd (show b∈([]:List Addr) from z) (by simp)
 refine ⟨⟨e0.mod,S.kind,rfl,rfl,Nat.le_refl _,fun y z c h1 h2 => ?_,fun y hy => ?_,fun y c _ h => ?_,fun _=>hd,Around.frames_deeper e0.frames,.inr ⟨rfl,rfl⟩,fun b z=>absurd z (noA b),e0.bs,e0.bsz,fun b _ _=>noA b,fun b z=>absurd z (noA b),e0.funs,e0.frf⟩,
  rfl,e0.bare,Un.kept hk,⟨_,x.toInCall.ns,fun i y v h1 h2 h3 => ?_⟩,fun y c h=>⟨_,x.cell y c h⟩,e0.hok.fresh (Nat.le_refl _),fun y c h => ?_,fun p hp=>absurd (show p∈([]:List (Addr×Obj)) from hp) (by simp),e0.hok.kept hk,?_⟩
 ·exact name_of_addr x.apart (PySem.mem_of_lookup h1) (PySem.mem_of_lookup h2)
 ·have hy:scope.names.lookup y=some .cell\/scope.names.lookup y=some .free:=hy
  rcases hy with hy | hy
  ·exact zfO hy
  ·exact absurd rfl (S.nofree _ (PySem.mem_of_lookup hy))
 ·exact Nat.le_of_lt (x.above y c (PySem.mem_of_lookup h))
 ·have hi:i < vs.length:=by
   unfold start at h2
   by_cases hi:i < vs.length
   ·exact hi
   ·rw [List.getElem?_append_right (by simpa using hi)] at h2
    rw [List.getElem?_replicate] at h2
    split at h2 <;> cases h2
  have ha:vs[i]?=some v:=by
   unfold start at h2
   rw [List.getElem?_append_left (by simpa using hi),List.getElem?_map] at h2
   cases e:vs[i]? with
   | none=>rw [e] at h2; cases h2
   | some a=>rw [e] at h2; cases h2; rfl
  obtain ⟨u,hu,rv⟩:=r.get ha
  have hp:ps[i]?=some y:=by
   rw [<- S.pre,List.getElem?_take_of_lt (by omega)]; exact h1
  have ndP:ps.Nodup:=by rw [<- S.pre]; exact S.nd.sublist (List.take_sublist _ _)
  refine ⟨u,rv,?_⟩
  rcases S.par y (List.mem_of_getElem? hp) with k | k
  ·exact .inl ⟨k,zeR ndP hp hu k⟩
  ·obtain ⟨c,e⟩:=zfO (n:=s.heap.objs.size + 1) k
   refine .inr ⟨.inl k,c,e,?_⟩
   have q:=x.cell y c e
   rw [zeT ndP hp hu (by show scope.names.lookup y≠_; rw [k]; decide)] at q
   exact q
 ·exact e0.hok.fresh (Nat.le_of_lt (x.above y c (PySem.mem_of_lookup h)))
 ·unfold start
  show _=N.length
  rw [List.length_append,List.length_map,List.length_replicate]
  omega
theorem zhD {CX:CXT} {P:Program} {w:World} {K:W.Frag} {mg:Str->Option Value} {base:Heap} {k:Nat} {f:Addr} {name qual:Str} {params:Arguments} {body:List Stmt} {scope:Scope} {dV kV doc pm cdv ct oc:Value} {an od:Option Addr}
  {osl:Array (Option Value)} {N ps:List Str} {sp:Sp} (lk:K.lookup f=some ⟨oc,od,.func (PySem.W.fnOf name qual params body scope dV kV doc pm an cdv ct),osl⟩) (hcd:PySem.W.codeIn K cdv qual=true) (S:FnScope N ps scope)
  (len:∀ vs H Q E,sp vs H Q E->vs.length=ps.length)
  (hbody:∀ (A:Around) (outer:List Env) (s:Shared) (H:Hp) (vs:List V) (Q:VK) (E:XK),Room k (A.deeper (envOfC qual scope s.heap.objs.size f cdv))->sp vs H Q E ->
   ∃ t,PSs (cxOf CX P w K mg base N qual scope f cdv A outer s H E) body t/\t { nx:=fun _ H'=>Q .non H',rt:=Q } (start N vs) H) :
  FnOk P w K mg base CX (k + 1) f (PySem.W.fnOf name qual params body scope dV kV doc pm an cdv ct) ps sp:=by
 refine ⟨len,fun A outer s H args us vs Q E hr e0 hb r hsp => ?_⟩
 have hl:=len _ _ _ _ hsp
 have KX:K.In s.heap:=e0.mod.kin.keeps fun b o e=>(e0.bs b o e).1
 have lim:s.heap.NoLimit:=e0.mod.nolimit.keeps fun b o e=>(e0.bs b o e).1
 have hkind:∀ y∈ps.zip us,scope.names.lookup y.1=some .local\/(scope.names.lookup y.1=some .cell/\((cellsFrom (s.heap.objs.size + 1) scope.names []).lookup y.1).isSome=true):=fun ⟨n,v⟩ hy=>by
  rcases S.par n (List.of_mem_zip hy).1 with q | q
  ·exact .inl q
  ·exact .inr ⟨q,PySem.W.cellsFrom_some _ _ _ (.inl q)⟩
 refine codeAny_call_function hr.depth (KX _ _ lk) rfl S.co S.gen rfl (PySem.W.codeRec_of KX hcd) (hb _ _ _ _ ?_)
 refine wpAny_newFunctionEnv_cells S.kind hkind fun env he s1 x => ?_
 subst he
 refine ⟨lim.keeps x.toInCall.keep,codeAny_func ?_⟩
 obtain ⟨t,ht,hq⟩:=hbody A outer s H vs Q E (hr.deeper _) hsp
 have I:Inv (cxOf CX P w K mg base N qual scope f cdv A outer s H E) [] (start N vs) H s1:=zeF S hr.hd e0 hl r x
 refine wpAny_mono (ht [] s1 (start N vs) H _ I hq) (fun fl s' hs => ?_) fun e s' hs=>hs
 have fin:∀ {σ':St} {H':Hp} {v:V} {u:Value},Inv (cxOf CX P w K mg base N qual scope f cdv A outer s H E) [] σ' H' s'->RelV v u->Q v H'->CE outer P w H s Q u s' :=
  fun {σ' H' v u} J rv q=>⟨v,H',J.os,J.bare,J.base,J.hok,rv,q⟩
 cases fl with
 | ret u =>
  obtain ⟨v,σ',H',J,rv,q⟩:=hs
  exact fin J rv q
 | next =>
  obtain ⟨σ',H',J,q⟩:=hs
  exact fin (v:=V.non) (u:=Value.none) J rfl q
 | brk =>
  obtain ⟨_,_,_,q⟩:=hs
  exact False.elim q
 | cont =>
  obtain ⟨_,_,_,q⟩:=hs
  exact False.elim q
section
variable {X:Cx} {x:Str} {p pos:Pos} {e:Expr} {es:List Expr} {t:TA} {id T:String} {r:List V->Hp->VK->Prop}
noncomputable def tCB (r:List V->Hp->VK->Prop) (t:TA):TE:=fun σ H Q=>t σ H fun vs H1=>r vs H1 Q
theorem zai (hc:CallR X (.builtin id) r) (hg:Gl X x) (hm:X.mg x=none) (hv:bootBuiltins x=some (.builtin id)) (ha:PA X (e :: es) t) (hn:x ≠ "__name__" := by decide) (hdb:(x == ("__debug__" : Str))=false:=by decide)
  (he:starEach (e :: es) X.env=(false,eval e X.env) :: starEach es X.env:=by rfl) (hpl:(backTo pos (starEach es X.env)).any (·.1)=false:=by rfl):PE X (.Call (.Name x p) (e :: es) [] pos) (tCB r t):=by
 intro pins s σ H Q I h
 refine wpAny_Call_Name_kw (zdH I hg hm hv ?_ hn hdb)
 exact PyProof.Rows.callWith_builtin1 (thnE (ha pos pins s σ H _ I h) fun us s1 vs H1 I1 r1 q1=>hc pins s1 σ H1 vs us Q I1 r1 q1) he hpl
theorem zcw (hc:CallR X (.type T) r) (hg:Gl X x) (hm:X.mg x=none) (hv:bootBuiltins x=some (.type T)) (ha:PA X (e :: es) t) (hn:x ≠ "__name__" := by decide) (hdb:(x == ("__debug__" : Str))=false:=by decide)
  (he:starEach (e :: es) X.env=(false,eval e X.env) :: starEach es X.env:=by rfl) (hpl:(backTo pos (starEach es X.env)).any (·.1)=false:=by rfl):PE X (.Call (.Name x p) (e :: es) [] pos) (tCB r t):=by
 intro pins s σ H Q I h
 refine wpAny_Call_Name_kw (zdH I hg hm hv ?_ hn hdb)
 exact PyProof.Rows.callWith_type1 (thnE (ha pos pins s σ H _ I h) fun us s1 vs H1 I1 r1 q1=>hc pins s1 σ H1 vs us Q I1 r1 q1) he hpl
end
end L2
namespace HT
open PySem PyProof.Rows
section
open PySem.SeqAt
open PySem.AutoSeq1 (wpAny_loadPart')
open PySem.MeetsSeq PySem.MeetsSeq2 PySem.MeetsSeq3
end
section
variable {prog:Program} {w:World} {A:Around} {E:Value->Shared->Prop} {s:Shared}
noncomputable def sIx (n d:Nat):Option Int->Nat
 | none=>d
 | some v=>if v < 0 then (v + (n:Int)).toNat else min v.toNat n
theorem sIx_none (n d:Nat):sIx n d none=d:=rfl
theorem sIx_nat (n d k:Nat):sIx n d (some (k:Int))=min k n:=by
 show (if (k:Int) < 0 then ((k:Int) + (n:Int)).toNat else min (k:Int).toNat n)=min k n
 rw [if_neg (by omega),Int.toNat_natCast]
end
end HT
namespace L2
open PySem PySem.Spec PyProof.Rows
noncomputable abbrev TO:=St->Hp->(Option Int->Hp->Prop)->Prop
noncomputable def PO (X:Cx) (e:Option Expr) (t:TO):Prop :=
 ∀ (pins:List (Addr×Obj)) (s:Shared) (σ : St) (H:Hp) (Q:Option Int->Hp->Prop),Inv X pins σ H s->t σ H Q ->
  wpAny (model X.prog X.w) X.A (evalPart e X.env) (fun u s'=>∃ o H',Inv X pins σ H' s'/\IsPart u o/\Q o H') X.xe s
noncomputable def tNoPart:TO:=fun _ H Q=>Q none H
noncomputable def tPart (t:TE):TO:=fun σ H Q=>t σ H fun x H1=>∃ i,x = .int i/\Q (some i) H1
section
variable {X:Cx} {e:Expr} {te:TE} {lo hi:Option Expr} {tl th:TO} {pos p2:Pos}
theorem zgf:PO X none tNoPart:=by
 intro pins s σ H Q I h
 rw [evalPart_none]
 exact wpAny_pure ⟨none,H,I,.none,h⟩
theorem zge (h:PE X e te):PO X (some e) (tPart te):=by
 intro pins s σ H Q I hw
 rw [evalPart_some]
 refine thnE (h pins s σ H _ I hw) fun u s1 x H1 I1 r1 q1 => ?_
 obtain ⟨i,rfl,q⟩:=q1
 obtain ⟨t,rfl⟩:=r1
 exact ⟨some i,H1,I1,.int i t,q⟩
noncomputable def SlR (X:Cx) (r:V->Option Int->Option Int->Hp->VK->Prop):Prop :=
 ∀ (pins:List (Addr×Obj)) (s:Shared) (σ : St) (H:Hp) (x:V) (v vl vu:Value) (lo hi:Option Int) (sl:Addr) (Q:VK),Inv X pins σ H s->RelV x v->s.heap.IsSliceOf sl vl vu .none->IsPart vl lo->IsPart vu hi->r x lo hi H Q ->
  ∃ T id,typeLookup (.type T) "__getitem__" = pure (some (.builtin id))/\s.TypeIs v T/\wpAny (model X.prog X.w) X.A (getItem v (.ref sl)) (EP X pins σ Q) X.xe s
noncomputable def tSl (r:V->Option Int->Option Int->Hp->VK->Prop) (te:TE) (tl th:TO):TE:=fun σ H Q=>te σ H fun x H1=>tl σ H1 fun l H2=>th σ H2 fun u H3=>r x l u H3 Q
theorem zfz {r:V->Option Int->Option Int->Hp->VK->Prop} (hr:SlR X r) (he:PE X e te) (hl:PO X lo tl) (hu:PO X hi th):PE X (.Subscript e (.Slice lo hi none p2) pos) (tSl r te tl th):=by
 intro pins s σ H Q I h
 refine Subscript_ (thnE (he pins s σ H _ I h) fun v s1 x H1 I1 r1 q1 => ?_)
 refine wpAny_Slice (thn (hl pins s1 σ H1 _ I1 q1) fun vl s2 ⟨l,H2,I2,pl,q2⟩=>thn (hu pins s2 σ H2 _ I2 q2) fun vu s3 ⟨u,H3,I3,pu,q3⟩ => ?_)
 rw [evalPart_none]
 refine wpAny_pure ?_
 have I4:Inv X pins σ H3 { s3 with heap:=s3.heap.push { cls := .type "slice",data := .fields #[vl,vu,.none] } }:=I3.kept (t':=s3.toks) fun b ob q=>Heap.get?_push_of_some _ q
 obtain ⟨T,id,hT,ht,hg⟩:=hr pins { s3 with heap:=s3.heap.push { cls := .type "slice",data := .fields #[vl,vu,.none] } } σ H3 x v vl vu l u s3.heap.objs.size Q I4 r1 (Heap.IsSliceOf.new ..) pl pu q3
 show wpAny (model X.prog X.w) X.A (subscriptTail e (.Slice lo hi none p2) v (.ref s3.heap.objs.size)) (EP X pins σ Q) X.xe { s3 with heap:=s3.heap.push { cls := .type "slice",data := .fields #[vl,vu,.none] } }
 exact tail_any (ops := [.ref s3.heap.objs.size,v]) ht hT hg (by with_unfolding_all rfl)
noncomputable def cutV (xs:List V) (lo hi:Option Int):List V:=(xs.drop (HT.sIx xs.length 0 lo)).take (HT.sIx xs.length xs.length hi - HT.sIx xs.length 0 lo)
theorem cutV_length (xs:List V) (lo hi:Option Int):(cutV xs lo hi).length<=xs.length:=by
 unfold cutV
 rw [List.length_take,List.length_drop]
 omega
end
noncomputable def ixN (n:Nat) (i:Int):Option Nat:=if 0<=i then (if i < n then some i.toNat else none) else if -(n:Int)<=i then some (i + n).toNat else none
noncomputable def atI {α : Type} (xs:List α) (i:Int):Option α := (ixN xs.length i).bind fun j=>xs[j]?
theorem zgu {n:Nat} {i:Int} {j:Nat} (h:ixN n i=some j):seqIndex? i n=some j/\j < n /\ -(n:Int)<=i/\i < n:=by
 unfold ixN at h
 by_cases h0:0<=i
 ·rw [if_pos h0] at h
  by_cases h1:i < n
  ·rw [if_pos h1] at h
   have e:i.toNat=j:=Option.some.inj h
   exact ⟨by rw [seqIndex_of h0 h1,e],by omega,by omega,h1⟩
  ·rw [if_neg h1] at h; cases h
 ·rw [if_neg h0] at h
  by_cases h1 : -(n:Int)<=i
  ·rw [if_pos h1] at h
   have e:(i + n).toNat=j:=Option.some.inj h
   exact ⟨by rw [seqIndex_neg (by omega) h1,e],by omega,h1,by omega⟩
  ·rw [if_neg h1] at h; cases h
theorem ze9 {α : Type} {xs:List α} {i:Int} {v : α} (h:atI xs i=some v):∃ j,seqIndex? i xs.length=some j/\xs[j]?=some v/\j < xs.length /\ -(xs.length:Int)<=i/\i < xs.length:=by
 unfold atI at h
 cases e:ixN xs.length i with
 | none=>rw [e] at h; cases h
 | some j =>
  rw [e] at h
  obtain ⟨h1,h2,h3,h4⟩:=zgu e
  exact ⟨j,h1,h,h2,h3,h4⟩
theorem zay {α : Type} {xs:List α} {j:Nat} {v : α} (h:xs[j]?=some v):atI xs (j:Int)=some v:=by
 have hj:j < xs.length:=(List.getElem?_eq_some_iff.mp h).1
 have e:ixN xs.length (j:Int)=some j:=by
  unfold ixN
  rw [if_pos (by omega),if_pos (by omega)]; simp
 unfold atI; rw [e]; exact h
noncomputable def PlainIx (b:Expr):Prop:=∀ o i,subscripted b false o i=operate [o,i] (getItem o i)
noncomputable def IxR (X:Cx) (r:R2):Prop :=
 ∀ (value slice:Expr) (pins:List (Addr×Obj)) (s:Shared) (σ : St) (H:Hp) (x y:V) (v u:Value) (Q:VK),Inv X pins σ H s->RelV x v->RelV y u->r x y H Q ->
  subscripted slice false v u=operate [v,u] (getItem v u)->wpAny (model X.prog X.w) X.A (subscriptTail value slice v u) (EP X pins σ Q) X.xe s
noncomputable def MtR (X:Cx) (id:String) (r:V->List V->Hp->VK->Prop):Prop :=
 ∀ (pins:List (Addr×Obj)) (s:Shared) (σ : St) (H:Hp) (x:V) (xs:List V) (v:Value) (us:List Value) (Q:VK),Inv X pins σ H s->RelV x v->Vals xs us->r x xs H Q ->
  wpAny (model X.prog X.w) X.A (call (.builtin id) (v :: us)) (EP X pins σ Q) X.xe s
section
variable {X:Cx} {a b:Expr} {ta tb:TE} {pos:Pos}
theorem zaC {r:R2} (hr:IxR X r) (ha:PE X a ta) (hb:PE X b tb) (hs:PlainIx b):PE X (.Subscript a b pos) (tOp r ta tb):=by
 intro pins s σ H Q I h
 exact Subscript_ (binT ha hb I h fun v u s2 x y H2 I2 rx ry q=>hr a b pins s2 σ H2 x y v u Q I2 rx ry q (hs _ _))
noncomputable def rIxL (K:W.Frag):R2:=fun x y H Q=>∃ p xs i v,x = .ref p/\y = .int i/\SqL K H p xs/\atI xs i=some v/\Q v H
noncomputable def rIxT (K:W.Frag):R2:=fun x y H Q=>∃ p xs i v,x = .ref p/\y = .int i/\SqT K H p xs/\atI xs i=some v/\Q v H
noncomputable def rIxS:R2:=fun x y H Q=>∃ z i c,x = .str z/\y = .int i/\z.length<=sizeLine/\atI z.cps.toList i=some c/\Q (.str ⟨#[c]⟩) H
theorem zaI:IxR X (rIxL X.K):=by
 intro value slice pins s σ H x y v u Q I rx ry h hs
 obtain ⟨p,xs,i,z,rfl,rfl,hq,he,q⟩:=h
 cases rx
 obtain ⟨t,rfl⟩:=ry
 obtain ⟨its,r,pl,hz⟩:=I.list hq
 obtain ⟨j,h1,h2,h3,h4,h5⟩:=ze9 he
 obtain ⟨w,ew,rw'⟩:=r.get h2
 have hl:=r.length
 have hn:=zdG
 have fin:EP X pins σ Q w s:=⟨z,H,I,rw',q⟩
 by_cases h0:0<=i
 ·have hj:i.toNat=j:=by
   rw [seqIndex_of h0 h5] at h1
   exact Option.some.inj h1
  exact item_listR pl.isList h0 (by omega) (by rw [hj]; simpa using ew) fin hs
 ·have hj:(i + (its.toArray.size:Int)).toNat=j:=by
   rw [seqIndex_neg (by omega) h4] at h1
   rw [List.size_toArray,<- hl]
   exact Option.some.inj h1
  exact subscriptTail_builtinR (x:=w) pl.isList.typeIs slot_list_getitem.lookup
   (wpAny_getItem_list_neg (Q:=fun r s'=>r=w/\EP X pins σ Q r s') pl.isList (by omega) (by rw [List.size_toArray] <;> omega) (by omega) (by rw [hj]; simpa using ew) ⟨rfl,fin⟩) hs
theorem za5:IxR X (rIxT X.K):=by
 intro value slice pins s σ H x y v u Q I rx ry h hs
 obtain ⟨p,xs,i,z,rfl,rfl,hq,he,q⟩:=h
 cases rx
 obtain ⟨t,rfl⟩:=ry
 obtain ⟨its,r,pl,hz⟩:=I.tuple hq
 obtain ⟨j,h1,h2,h3,h4,h5⟩:=ze9 he
 obtain ⟨w,ew,rw'⟩:=r.get h2
 have hl:=r.length
 have hn:=zdG
 have fin:EP X pins σ Q w s:=⟨z,H,I,rw',q⟩
 exact subscriptTail_builtinR (x:=w) pl.typeIs slot_tuple_getitem.lookup
  (getItem_tuple (j:=j) (Q:=fun r s'=>r=w/\EP X pins σ Q r s') pl (by omega) (by omega) (by rw [List.size_toArray,<- hl]; exact h1) (by simpa using ew) ⟨rfl,fin⟩) hs
theorem ix_str:IxR X rIxS:=by
 intro value slice pins s σ H x y v u Q I rx ry h hs
 obtain ⟨z,i,c,rfl,rfl,hz,he,q⟩:=h
 obtain ⟨t,rfl⟩:=rx
 obtain ⟨t',rfl⟩:=ry
 obtain ⟨j,h1,h2,h3,h4,h5⟩:=ze9 he
 have hl:z.cps.toList.length=z.length:=by simp [Str.length]
 rw [hl] at h1 h4 h5
 have hn:=zdG
 exact tail_any (typeIs_str s z t) slot_str_getitem.lookup (getItem_str (c:=c) (by
  have e1:decide (i < -(2 ^ 63:Int))=false:=decide_eq_false (by omega)
  have e2:decide (i>=2 ^ 63)=false:=decide_eq_false (by omega)
  rw [e1,e2,Bool.or_false]) (by rw [h1]; simpa using h2) ⟨.str ⟨#[c]⟩,H,I.tok _,⟨_,rfl⟩,q⟩) hs
theorem mapSeq_set (its:List Value) (n j:Nat) (u:Value):Obj.mapSeq (·.setIfInBounds j u) { cls := .type "list",data := .seq its.toArray n }={ cls := .type "list",data := .seq (its.set j u).toArray n }:=by
 simp [Obj.mapSeq]
theorem Inv.lst {pins:List (Addr×Obj)} {σ : St} {H:Hp} {s:Shared} {p:Addr} {xs:List V} (I:Inv X pins σ H s) (h:H p=some (.lst xs)) :
  ∃ (its:List Value) (n:Nat),Vals xs its/\s.heap.get? p=some { cls := .type "list",data := .seq its.toArray n }/\xs.length<=sizeLine:=by
 obtain ⟨z,its,n,r,e⟩:=I.hok p _ h
 exact ⟨its,n,r,e,z⟩
theorem Inv.lstUpd {pins:List (Addr×Obj)} {σ : St} {H:Hp} {s:Shared} {p:Addr} {xs ys:List V} {its its':List Value} {n n':Nat} {f:Obj->Obj} (I:Inv X pins σ H s) (h:H p=some (.lst xs))
  (ho:s.heap.get? p=some { cls := .type "list",data := .seq its.toArray n }) (hf:f { cls := .type "list",data := .seq its.toArray n }={ cls := .type "list",data := .seq its'.toArray n' }) (r:Vals ys its') (hz:ys.length<=sizeLine) (t:Nat) :
  Inv X pins σ (upd H p (.lst ys)) { s with heap:=s.heap.update p f,toks:=t }:=by
 have e:(s.heap.update p f).get? p=some { cls := .type "list",data := .seq its'.toArray n' }:=by
  rw [Heap.get?_update_self f ho (by rw [hf] <;> rfl),hf]
 refine I.write (x:=p) (e:=p) (by rw [h]; trivial) (.inl rfl) (fun b u hb q=>(Heap.get?_update_other _ _ (Ne.symm hb)).trans q) ⟨_,e⟩ ?_
 exact ⟨hz,its',n',r,e⟩
noncomputable def rSetL:V->V->V->Hp->(Hp->Prop)->Prop:=fun o i v H Q=>∃ p xs k j,o = .ref p/\i = .int k/\H p=some (.lst xs)/\ixN xs.length k=some j/\Q (upd H p (.lst (xs.set j v)))
theorem zfm:PSet X rSetL:=by
 intro pins s σ H o i v ov iv u Q I ro ri rv h
 obtain ⟨p,xs,k,j,rfl,rfl,hp,hj,q⟩:=h
 cases ro
 obtain ⟨t,rfl⟩:=ri
 obtain ⟨its,n,r,ho,hz⟩:=I.lst hp
 obtain ⟨h1,h2,h3,h4⟩:=zgu hj
 have hl:=r.length
 have hn:=zdG
 have I':Inv X pins σ (upd H p (.lst (xs.set j v))) { s with heap:=s.heap.update p (Obj.mapSeq (·.setIfInBounds j u)) } :=
  I.lstUpd hp ho (mapSeq_set its n j u) (r.set rv j) (by rw [List.length_set]; exact hz) s.toks
 by_cases h0:0<=k
 ·have hk:k.toNat=j:=by
   rw [seqIndex_of h0 h4] at h1
   exact Option.some.inj h1
  exact PySem.W.ki_setAt ho h0 (by omega) (by rw [List.size_toArray,<- hl]; exact h4) (by rw [hk]; exact ⟨_,I',q⟩)
 ·have hk:(k + (its.toArray.size:Int)).toNat=j:=by
   rw [seqIndex_neg (by omega) h3] at h1
   rw [List.size_toArray,<- hl]
   exact Option.some.inj h1
  exact PySem.W.ki_setBack ho (by omega) (by rw [List.size_toArray,<- hl]; exact h3) (by omega) (by rw [hk]; exact ⟨_,I',q⟩)
theorem slice_bounds (lo hi:Option Int) (n:Nat):(sliceBounds lo hi none n).1=((HT.sIx n 0 lo:Nat):Int)/\(sliceBounds lo hi none n).2.1=((HT.sIx n n hi:Nat):Int)/\(sliceBounds lo hi none n).2.2=1:=by
 refine ⟨?_,?_,rfl⟩
 ·cases lo with
  | none=>simp [sliceBounds,HT.sIx]
  | some i =>
   simp only [sliceBounds,HT.sIx,Option.getD_none,show (1:Int) > 0 by decide,if_true]
   by_cases h:i < 0
   ·simp only [h,if_true] <;> omega
   ·simp only [h,if_false] <;> omega
 ·cases hi with
  | none=>simp [sliceBounds,HT.sIx]
  | some i =>
   simp only [sliceBounds,HT.sIx,Option.getD_none,show (1:Int) > 0 by decide,if_true]
   by_cases h:i < 0
   ·simp only [h,if_true] <;> omega
   ·simp only [h,if_false] <;> omega
theorem slicePick_cut (its:List Value) (lo hi:Option Int):slicePick its.toArray lo hi none=((its.drop (HT.sIx its.length 0 lo)).take (HT.sIx its.length its.length hi - HT.sIx its.length 0 lo)).toArray:=by
 obtain ⟨h1,h2,h3⟩:=slice_bounds lo hi its.toArray.size
 unfold slicePick
 rw [h1,h2,h3]
 simp only [sliceRange_one,pick_run,List.size_toArray] <;> rfl
noncomputable def rSlL (K:W.Frag):V->Option Int->Option Int->Hp->VK->Prop:=fun x lo hi H Q=>∃ a xs,x = .ref a/\SqL K H a xs/\∀ p,H p=none->Q (.ref p) (upd H p (.lst (cutV xs lo hi)))
theorem zfV:SlR X (rSlL X.K):=by
 intro pins s σ H x v vl vu lo hi sl Q I rx hs pl pu h
 obtain ⟨a,xs,rfl,hx,q⟩:=h
 cases rx
 obtain ⟨its,r,ht,hz⟩:=I.list hx
 have hlen:=r.length
 refine ⟨"list",_,slot_list_getitem.lookup,ht.isList.typeIs,?_⟩
 refine wpAny_getItem_list_slice ht.isList hs pl pu .none (by simp) ?_ (by rw [List.size_toArray] <;> omega)
 rw [slicePick_cut,<- hlen]
 refine ⟨.ref s.heap.objs.size,_,I.laid (t':=s.toks) (o := .lst (cutV xs lo hi)) (fun b ob q=>Heap.get?_push_of_some _ q) (Nat.le_refl _) ?_,rfl,q _ (I.hok.fresh (Nat.le_refl _))⟩
 exact ⟨Nat.le_trans (cutV_length xs lo hi) hz,_,0,(r.drop (HT.sIx xs.length 0 lo)).take (HT.sIx xs.length xs.length hi - HT.sIx xs.length 0 lo),Heap.get?_push_size _ rfl⟩
noncomputable def flatV:V->Bool
 | .non=>true
 | .bl _=>true
 | .int _=>true
 | .str _=>true
 | _=>false
noncomputable def eqV:V->V->Bool
 | .non,.non=>true
 | .bl a,.bl b=>a == b
 | .bl a,.int b=>(if a then 1 else 0) == b
 | .int a,.bl b=>a == (if b then 1 else 0)
 | .int a,.int b=>a == b
 | .str a,.str b=>a == b
 | _,_=>false
theorem eqAt_V {A:Around} {s:Shared} {y x:V} {u v:Value} (ry:RelV y u) (rx:RelV x v) (fy:flatV y=true) (fx:flatV x=true):SeqAt.EqAt A s u v (eqV y x):=by
 cases y with
 | non =>
  cases ry
  cases x with
  | non=>cases rx; exact SeqAt.EqAt.same _
  | bl b=>cases rx; exact SeqAt.EqAt.none_bool b
  | int b=>obtain ⟨t,rfl⟩:=rx; exact SeqAt.EqAt.none_int b t
  | str b=>obtain ⟨t,rfl⟩:=rx; exact SeqAt.EqAt.none_str b t
  | _=>exact absurd (show false=true from fx) Bool.false_ne_true
 | bl a =>
  cases ry
  cases x with
  | non=>cases rx; exact SeqAt.EqAt.bool_none a
  | bl b=>cases rx; exact SeqAt.EqAt.bool_bool a b
  | int b=>obtain ⟨t,rfl⟩:=rx; exact SeqAt.EqAt.bool_int a b t
  | str b=>obtain ⟨t,rfl⟩:=rx; exact SeqAt.EqAt.bool_str a b t
  | _=>exact absurd (show false=true from fx) Bool.false_ne_true
 | int a =>
  obtain ⟨t',rfl⟩:=ry
  cases x with
  | non=>cases rx; exact SeqAt.EqAt.int_none a t'
  | bl b=>cases rx; exact SeqAt.EqAt.int_bool a t' b
  | int b=>obtain ⟨t,rfl⟩:=rx; exact SeqAt.EqAt.int_int a t' b t
  | str b=>obtain ⟨t,rfl⟩:=rx; exact SeqAt.EqAt.int_str a t' b t
  | _=>exact absurd (show false=true from fx) Bool.false_ne_true
 | str a =>
  obtain ⟨t',rfl⟩:=ry
  cases x with
  | non=>cases rx; exact SeqAt.EqAt.str_none a t'
  | bl b=>cases rx; exact SeqAt.EqAt.str_bool a t' b
  | int b=>obtain ⟨t,rfl⟩:=rx; exact SeqAt.EqAt.str_int a t' b t
  | str b=>obtain ⟨t,rfl⟩:=rx; exact SeqAt.EqAt.str_str a t' b t
  | _=>exact absurd (show false=true from fx) Bool.false_ne_true
 | _=>exact absurd (show false=true from fy) Bool.false_ne_true
noncomputable def eqU (x:V) (u:Value):Bool:=match u with
 | .none=>eqV .non x
 | .bool b=>eqV (.bl b) x
 | .int i _=>eqV (.int i) x
 | .str z _=>eqV (.str z) x
 | _=>false
theorem zhb {x y:V} {u:Value} (r:RelV y u) (f:flatV y=true):eqU x u=eqV y x:=by
 cases y with
 | non=>cases r; rfl
 | bl b=>cases r; rfl
 | int i=>obtain ⟨t,rfl⟩:=r; rfl
 | str z=>obtain ⟨t,rfl⟩:=r; rfl
 | _=>exact absurd (show false=true from f) Bool.false_ne_true
theorem zdi {x:V}:∀ {xs:List V} {us:List Value},Vals xs us->xs.all flatV=true->us.any (eqU x)=xs.any fun y=>eqV y x
 | _,_,.nil,_=>rfl
 | y :: xs,u :: us,.cons r t,f=>by
  rw [List.all_cons,Bool.and_eq_true] at f
  rw [List.any_cons,List.any_cons,zhb r f.1,zdi t f.2]
theorem zcx {A:Around} {s:Shared} {x:V} {v:Value} (rx:RelV x v) (fx:flatV x=true):∀ {xs:List V} {us:List Value},Vals xs us->xs.all flatV=true->∀ u∈us,SeqAt.EqAt A s u v (eqU x u)
 | _,_,.nil,_=>fun u hu=>by cases hu
 | y :: xs,u :: us,.cons r t,f=>fun u' hu=>by
  rw [List.all_cons,Bool.and_eq_true] at f
  rcases List.mem_cons.mp hu with rfl | hu
  ·rw [zhb r f.1]; exact eqAt_V r rx f.1 fx
  ·exact zcx rx fx t f.2 u' hu
noncomputable def inV (x:V) (xs:List V):Bool:=xs.any fun y=>eqV y x
noncomputable def rIn (K:W.Frag) (neg:Bool):R2:=fun x y H Q=>∃ p xs,y = .ref p/\(SqL K H p xs\/SqT K H p xs)/\flatV x=true/\xs.all flatV=true/\Q (.bl (if neg then !inV x xs else inV x xs)) H
theorem zc4:OpR X (compareOp .In) (rIn X.K false):=by
 intro pins s σ H x y v u Q I rx ry h
 obtain ⟨p,xs,rfl,hq,fx,fs,q⟩:=h
 cases ry
 rcases hq with hq | hq
 ·obtain ⟨its,r,pl,hz⟩:=I.list hq
  refine SeqAt.in_listAt (eqU x) pl.isList (fun w hw=>zcx rx fx r fs w (by simpa using hw)) ⟨.bl _,H,I,rfl,?_⟩
  rw [show its.toArray.any (eqU x)=its.any (eqU x) by simp,zdi r fs]
  exact q
 ·obtain ⟨its,r,pl,hz⟩:=I.tuple hq
  refine SeqAt.in_tupleAt (eqU x) pl (fun w hw=>zcx rx fx r fs w (by simpa using hw)) ⟨.bl _,H,I,rfl,?_⟩
  rw [show its.toArray.any (eqU x)=its.any (eqU x) by simp,zdi r fs]
  exact q
theorem zbY:OpR X (compareOp .NotIn) (rIn X.K true):=by
 intro pins s σ H x y v u Q I rx ry h
 obtain ⟨p,xs,rfl,hq,fx,fs,q⟩:=h
 cases ry
 rcases hq with hq | hq
 ·obtain ⟨its,r,pl,hz⟩:=I.list hq
  refine SeqAt.notIn_listAt (eqU x) pl.isList (fun w hw=>zcx rx fx r fs w (by simpa using hw)) ⟨.bl _,H,I,rfl,?_⟩
  rw [show its.toArray.any (eqU x)=its.any (eqU x) by simp,zdi r fs]
  exact q
 ·obtain ⟨its,r,pl,hz⟩:=I.tuple hq
  refine SeqAt.notIn_tupleAt (eqU x) pl (fun w hw=>zcx rx fx r fs w (by simpa using hw)) ⟨.bl _,H,I,rfl,?_⟩
  rw [show its.toArray.any (eqU x)=its.any (eqU x) by simp,zdi r fs]
  exact q
theorem zau:CallR X (.builtin "len") (fun xs H Q=>∃ p ys,xs = [.ref p]/\(SqL X.K H p ys\/SqT X.K H p ys)/\Q (.int ys.length) H):=by
 intro pins s σ H xs us Q I r h
 obtain ⟨p,ys,rfl,hq,q⟩:=h
 obtain ⟨u,rfl,rx⟩:=zcS r
 cases rx
 have hn:=zdG
 rcases hq with hq | hq
 ·obtain ⟨its,r',pl,hz⟩:=I.list hq
  have hlen:=r'.length
  exact Calls.call_len_list pl.isList (by simp only [List.size_toArray] <;> omega) ⟨.int ys.length,H,I.tok _,⟨s.toks + 1,by rw [List.size_toArray,hlen]⟩,q⟩
 ·obtain ⟨its,r',pl,hz⟩:=I.tuple hq
  have hlen:=r'.length
  exact len_tuple pl (by simp only [List.size_toArray] <;> omega) ⟨.int ys.length,H,I.tok _,⟨s.toks + 1,by rw [List.size_toArray,hlen]⟩,q⟩
theorem call_len_str:CallR X (.builtin "len") (fun xs H Q=>∃ z,xs = [.str z]/\z.length<=sizeLine/\Q (.int z.length) H):=by
 intro pins s σ H xs us Q I r h
 obtain ⟨z,rfl,hz,q⟩:=h
 obtain ⟨u,rfl,t,rfl⟩:=zcS r
 have hn:=zdG
 exact len_str (by omega) ⟨.int z.length,H,I.tok _,⟨_,rfl⟩,q⟩
theorem zcR:CallR X (.type "list") (fun xs H Q=>∃ p ys,xs = [.ref p]/\(SqL X.K H p ys\/SqT X.K H p ys)/\∀ l,H l=none->Q (.ref l) (upd H l (.lst ys))):=by
 intro pins s σ H xs us Q I r h
 obtain ⟨p,ys,rfl,hq,q⟩:=h
 obtain ⟨u,rfl,rx⟩:=zcS r
 cases rx
 have fin:∀ (its:List Value),Vals ys its->ys.length<=sizeLine->∀ (h':Heap) (c':Nat),(∀ b o',s.heap.get? b=some o'->h'.get? b=some o') ->
   h'.get? s.heap.objs.size=some { cls := .type "list",dict:=none,data := .seq its.toArray c',slots := #[] }->EP X pins σ Q (.ref s.heap.objs.size) { s with heap:=h' }:=fun its r' hz h' c' kp e =>
  ⟨.ref s.heap.objs.size,_,I.laid (t':=s.toks) kp (Nat.le_refl _) (show ObjOk X.prog X.w _ h' _ (.lst ys) from ⟨hz,its,c',r',e⟩),rfl,q _ (I.hok.fresh (Nat.le_refl _))⟩
 rcases hq with hq | hq
 ·obtain ⟨its,r',pl,hz⟩:=I.list hq
  have hlen:=r'.length
  obtain ⟨o,ho,hc,n,hd⟩:=pl.isList
  exact call_list_seq p (.inl rfl) ho hc hd (fun h' c' kp e=>fin its r' hz h' c' kp e) (by simp only [List.size_toArray] <;> omega)
 ·obtain ⟨its,r',pl,hz⟩:=I.tuple hq
  have hlen:=r'.length
  obtain ⟨o,ho,hc,n,hd⟩:=pl
  exact call_list_seq p (.inr rfl) ho hc hd (fun h' c' kp e=>fin its r' hz h' c' kp e) (by simp only [List.size_toArray] <;> omega)
noncomputable def tyV (K:W.Frag) (T:String) (x:V) (H:Hp):Prop:=match x with
 | .str _=>T = "str"
 | .int _=>T = "int"
 | .ref p=>(T = "list" /\ ∃ xs,SqL K H p xs)\/(T = "tuple" /\ ∃ o,K.lookup p=some o/\o.cls = .type "tuple" /\ o.dict=none) \/
   (T = "dict" /\ ((∃ kvs,H p=some (.dK kvs))\/∃ kvs,H p=some (.dT kvs)))\/(T = "set" /\ ∃ S n,H p=some (.set S n))
 | _=>False
theorem tyV_is {pins:List (Addr×Obj)} {σ : St} {H:Hp} {s:Shared} {T:String} {x:V} {v:Value} (I:Inv X pins σ H s) (r:RelV x v) (ty:tyV X.K T x H) :
  s.TypeIs v T/\∀ a,v = .ref a->∃ ob,s.heap.get? a=some ob/\ob.dict=none:=by
 cases x with
 | str z =>
  obtain ⟨t,rfl⟩:=r
  cases (show T = "str" from ty)
  exact ⟨typeIs_str s z t,fun _ e=>nomatch e⟩
 | int i =>
  obtain ⟨t,rfl⟩:=r
  cases (show T = "int" from ty)
  exact ⟨typeIs_int s i t,fun _ e=>nomatch e⟩
 | ref p =>
  cases r
  rcases ty with ⟨rfl,xs,hq⟩ | ⟨rfl,o,hk,hc,hd⟩ | ⟨rfl,hk⟩ | ⟨rfl,S,n,hk⟩
  ·obtain ⟨its,_,pl,_⟩:=I.list hq
   refine ⟨pl.isList.typeIs,fun a e => ?_⟩
   cases e
   obtain ⟨o,n,e,c,hd,_⟩:=pl
   exact ⟨o,e,hd⟩
  ·refine ⟨⟨o,I.kIn p o hk,hc⟩,fun a e => ?_⟩
   cases e
   exact ⟨o,I.kIn _ o hk,hd⟩
  ·have z:∃ o,s.heap.get? p=some o/\o.ExactDict:=by
    rcases hk with ⟨kvs,hk⟩ | ⟨kvs,hk⟩
    ·obtain ⟨_,_,_,_,o,_,_,e,ex,_⟩:=I.hok p _ hk
     exact ⟨o,e,ex⟩
    ·obtain ⟨_,_,_,_,o,_,_,e,ex,_⟩:=I.hok p _ hk
     exact ⟨o,e,ex⟩
   obtain ⟨o,e,ex⟩:=z
   refine ⟨⟨o,e,ex.1⟩,fun a e2 => ?_⟩
   cases e2
   exact ⟨o,e,ex.2.1⟩
  ·obtain ⟨o,_,_,_,e,ex,_⟩:=I.hok p _ hk
   refine ⟨⟨o,e,ex.1⟩,fun a e2 => ?_⟩
   cases e2
   exact ⟨o,e,ex.2.1⟩
 | _=>exact False.elim ty
noncomputable def tBM (K:W.Frag) (T:String) (r:V->List V->Hp->VK->Prop) (to:TE) (t:TA):TE:=fun σ H Q=>to σ H fun x H1=>tyV K T x H1/\t σ H1 fun xs H2=>r x xs H2 Q
variable {o e:Expr} {es:List Expr} {to:TE} {t:TA} {name:Str} {apos cpos:Pos} {T id:String} {r:V->List V->Hp->VK->Prop}
theorem zdm (pa:PlainAttrs T) (slot:Slot T name id) (hty:typeOf (.builtin id)=pure (.type "method_descriptor")) (hm:MtR X id r) (ho:PE X o to) (ha:PA X (e :: es) t)
  (hbase:attributeBase o name X.env (eval o X.env)=eval o X.env:=by rfl)
  (hfew:((backTo cpos (starEach (e :: es) X.env)).all (fun x => !x.1) && (backToKw cpos (keywordEach [] X.env)).all (fun x=>x.1.isSome)
   && decide ((e :: es).length + ([]:List Keyword).length + (if ([]:List Keyword).isEmpty then 0 else 1) < 30))=true:=by rfl)
  (hline:(apos.endLine == cpos.line)=true:=by rfl) (hs:starEach (e :: es) X.env=(false,eval e X.env) :: starEach es X.env:=by rfl) (hplain:(backTo cpos (starEach es X.env)).any (·.1)=false:=by rfl) :
  PE X (.Call (.Attribute o name apos) (e :: es) [] cpos) (tBM X.K T r to t):=by
 intro pins s σ H Q I h
 refine wpAny_Call_method_late hbase hfew hline rfl (thnE (ho pins s σ H _ I h) fun v s1 x H1 I1 r1 ⟨ty,q1⟩ => ?_)
 obtain ⟨h1,h2⟩:=tyV_is I1 r1 ty
 refine ⟨T,id,pa,slot,hty,h1,h2,?_⟩
 have hA:=ha cpos pins s1 σ H1 _ I1 q1
 rw [hs] at hA ⊢
 refine Calls.callWith_builtin (by show (false || (backTo cpos (starEach es X.env)).any (·.1))=false; rw [hplain] <;> rfl) (Calls.evalArgs_plain ?_)
 exact thn hA fun us s2 ⟨vs,H2,I2,r2,q2⟩=>hm pins s2 σ H2 x vs v us Q I2 r1 r2 q2
end
noncomputable def MtM (X:Cx) (id:String) (r:V->List V->Hp->VK->Prop):Prop :=
 ∀ (pins:List (Addr×Obj)) (s:Shared) (σ : St) (H:Hp) (x:V) (xs:List V) (v:Value) (us:List Value) (Q:VK),Inv X pins σ H s->RelV x v->Vals xs us->r x xs H Q ->
  wpAny (model X.prog X.w) X.A (call (.builtin id) (v :: us)) (EP X pins σ Q) X.xe s
theorem Vals.one:∀ {x:V} {us:List Value},Vals [x] us->∃ u,us = [u]/\RelV x u
 | _,_,.cons r .nil=>⟨_,rfl,r⟩
theorem Vals.rep {xs:List V} {us:List Value} (h:Vals xs us):∀ k:Nat,Vals (List.replicate k xs).flatten (List.replicate k us).flatten
 | 0 => .nil
 | k + 1=>by
  rw [List.replicate_succ,List.replicate_succ,List.flatten_cons,List.flatten_cons]
  exact Vals.append h (Vals.rep h k)
theorem zeI (its:List Value):∀ (k:Nat) (acc:List Value),
  List.foldl (fun x1 x2=>x1 ++ x2) acc.toArray (List.replicate k its.toArray)=(acc ++ (List.replicate k its).flatten).toArray
 | 0,acc=>by simp
 | k + 1,acc=>by
  have e:acc.toArray ++ its.toArray=(acc ++ its).toArray:=by simp
  have e2:(acc ++ its) ++ (List.replicate k its).flatten=acc ++ (List.replicate (k + 1) its).flatten:=by
   rw [List.replicate_succ,List.flatten_cons,List.append_assoc]
  rw [<- e2,<- zeI its k (acc ++ its),<- e,List.replicate_succ,List.foldl_cons]
section
variable {X:Cx} {pins:List (Addr×Obj)} {σ : St} {H:Hp} {s:Shared} {l b:Addr} {xs ys zs:List V}
theorem Inv.lset {its its':List Value} {n:Nat} {f:Array Value->Array Value} {t':Nat} (I:Inv X pins σ H s) (hH:H l=some (.lst xs))
  (e:s.heap.get? l=some { cls := .type "list",data := .seq its.toArray n }) (hf:f its.toArray=its'.toArray) (hv:Vals ys its') (hz:ys.length<=sizeLine) :
  Inv X pins σ (upd H l (.lst ys)) { s with heap:=s.heap.update l (Obj.mapSeq f),toks:=t' }:=by
 have q:=PySem.IsL.update e f
 rw [hf] at q
 refine I.write (x:=l) (e:=l) (by rw [hH]; exact trivial) (.inl rfl) (fun b' u hb hu=>(Heap.get?_update_other s.heap (Obj.mapSeq f) (Ne.symm hb)).trans hu) ⟨_,q⟩ ?_
 exact ⟨hz,its',_,hv,q⟩
theorem Inv.lnew {its:List Value} {t':Nat} (I:Inv X pins σ H s) (hv:Vals ys its) (hz:ys.length<=sizeLine) :
  Inv X pins σ (upd H s.heap.objs.size (.lst ys)) { s with heap:=s.heap.push { cls := .type "list",data := .seq its.toArray },toks:=t' } :=
 I.laid (fun _ _ q=>Heap.get?_push_of_some _ q) (Nat.le_refl _) ⟨hz,its,0,hv,Heap.get?_push_size _ rfl⟩
theorem Inv.fresh (I:Inv X pins σ H s):H s.heap.objs.size=none:=I.hok.fresh (Nat.le_refl _)
theorem Inv.lstM (I:Inv X pins σ H s) (hH:H l=some (.lst xs)):xs.length<=sizeLine/\∃ (its:List Value) (n:Nat),Vals xs its/\xs.length=its.length/\s.heap.get? l=some { cls := .type "list",data := .seq its.toArray n }:=by
 obtain ⟨z,its,n,r,e⟩:=I.hok l _ hH
 exact ⟨z,its,n,r,r.length,e⟩
theorem notLongL {n:Nat} (h:n<=sizeLine):Builtin.List.listTooLong n=false:=by
 unfold Builtin.List.listTooLong
 exact decide_eq_false (by omega)
end
section
variable {X:Cx}
noncomputable def rAppend:V->List V->Hp->VK->Prop:=fun x vs H Q=>∃ l xs y,x = .ref l/\vs = [y]/\H l=some (.lst xs)/\xs.length < sizeLine/\Q .non (upd H l (.lst (xs ++ [y])))
theorem zaW:MtM X "list.append" rAppend:=by
 intro pins s σ H x vs v us Q I rx rv h
 obtain ⟨l,xs,y,rfl,rfl,hH,hz,q⟩:=h
 cases rx
 obtain ⟨u,rfl,ru⟩:=rv.one
 obtain ⟨z,its,n,r,hl,e⟩:=I.lstM hH
 refine call_meets F.slot_list_append ⟨_,e,rfl⟩ F.entry_list_append (F.args_list_append_2 _ _) (PySem.list_append l its.toArray n u (by rw [List.size_toArray]; omega)) ⟨e,?_⟩
 refine ⟨.non,_,I.lset (its':=its ++ [u]) hH e (by simp) (r.append (.cons ru .nil)) ?_,rfl,q⟩
 rw [List.length_append,List.length_singleton]
 omega
noncomputable def rCat:R2:=fun x y H Q=>∃ l b xs zs,x = .ref l/\y = .ref b/\H l=some (.lst xs)/\H b=some (.lst zs)/\xs.length + zs.length<=sizeLine/\∀ p,H p=none->Q (.ref p) (upd H p (.lst (xs ++ zs)))
theorem zbS:OpR X (binaryOp .Add) rCat:=by
 intro pins s σ H x y v u Q I rx ry h
 obtain ⟨l,b,xs,zs,rfl,rfl,hH,hB,hz,q⟩:=h
 cases rx
 cases ry
 obtain ⟨z,its,n,r,hl,e⟩:=I.lstM hH
 obtain ⟨z2,its2,n2,r2,hl2,e2⟩:=I.lstM hB
 refine PySem.P.add_list e e2 ?_ (by rw [List.size_toArray,List.size_toArray]; omega)
 have ea:its.toArray ++ its2.toArray=(its ++ its2).toArray:=by simp
 rw [ea]
 exact ⟨.ref _,_,I.lnew (t':=s.toks) (r.append r2) (by rw [List.length_append]; omega),rfl,q _ I.fresh⟩
noncomputable def rRep:R2:=fun x y H Q=>∃ l k xs,x = .ref l/\y = .int k/\H l=some (.lst xs) /\ -(2 ^ 63)<=k/\k < 2 ^ 63/\xs.length * k.toNat<=sizeLine /\
 ∀ p,H p=none->Q (.ref p) (upd H p (.lst (List.replicate k.toNat xs).flatten))
theorem len_rep {α : Type} (xs:List α) (k:Nat):(List.replicate k xs).flatten.length=k * xs.length:=by
 induction k with
 | zero=>simp
 | succ k ih=>rw [List.replicate_succ,List.flatten_cons,List.length_append,ih,Nat.succ_mul,Nat.add_comm]
theorem zgl:OpR X (binaryOp .Mult) rRep:=by
 intro pins s σ H x y v u Q I rx ry h
 obtain ⟨l,k,xs,rfl,rfl,hH,h1,h2,hz,q⟩:=h
 cases rx
 obtain ⟨t,rfl⟩:=ry
 obtain ⟨z,its,n,r,hl,e⟩:=I.lstM hH
 have hlen:its.toArray.size * k.toNat<=sizeLine:=by rw [List.size_toArray,<- hl]; exact hz
 have hcap:¬ its.toArray.size * k.toNat > (2 ^ 63 - 1) / 8:=by
  have:(sizeLine:Nat)<=(2 ^ 63 - 1) / 8:=by decide
  omega
 have hfit:¬ (!Builtin.List.listFitsIndex k)=true:=by
  rw [fitsIndex_both h1 h2]
  exact Bool.false_ne_true
 have hlong:¬ Builtin.List.listTooLong (its.toArray.size * k.toNat)=true:=by
  rw [notLongL hlen]
  exact Bool.false_ne_true
 have hnew:List.foldl (fun x1 x2=>x1 ++ x2) #[] (List.replicate (if its.toArray.isEmpty=true then 0 else k.toNat) its.toArray)=(List.replicate k.toNat its).flatten.toArray:=by
  have f0:∀ m:Nat,List.foldl (fun x1 x2=>x1 ++ x2) #[] (List.replicate m its.toArray)=(List.replicate m its).flatten.toArray:=fun m=>by
   have:=zeI its m []
   rw [List.nil_append] at this
   exact this
  rw [f0]
  cases its with
  | nil=>simp
  | cons a r'=>rw [if_neg (by simp)]
 refine wpAny_binaryOp_repeat_ref (T := "list") (U := "int") (by decide) ⟨_,e,rfl⟩ (fun s'=>typeIs_int s' k t) noFill_list_mul F.fills_int_mul F.slot_int_rmul repeat_list F.slot_int_index.lookup
  (call_meets F.slot_int_rmul (typeIs_int s k t) F.entry_int_rmul (F.args_int_rmul_2 _ _) (int___rmul___int_list k t l its.toArray n)
   ⟨e,rfl,⟨_,e,rfl⟩,call_meets F.slot_list_mul ⟨_,e,rfl⟩ F.entry_list_mul (F.args_list_mul_2 _ _) (AutoListH.list___mul___list_int_3 l its.toArray n k t hfit hcap hlong) ⟨e,?_⟩⟩)
 rw [hnew]
 exact ⟨.ref _,_,I.lnew (t':=s.toks) (r.rep k.toNat) (by rw [len_rep,Nat.mul_comm]; exact hz),rfl,q _ I.fresh⟩
end
section
variable {prog:Program} {w:World} {A:Around} {E:Value->Shared->Prop} {s:Shared}
end
section
variable {X:Cx}
end
section
variable {κ : Type} [DecidableEq κ]
noncomputable def valV (kvs:List (κ × V)) (k : κ):Option V:=(kvs.find? fun kv=>decide (kv.1=k)).map (·.2)
noncomputable def putK (kvs:List (κ × V)) (k : κ) (v:V):List (κ × V) :=
 if (kvs.any fun kv=>decide (kv.1=k))=true then kvs.map (fun kv=>if kv.1=k then (kv.1,v) else kv) else kvs ++ [(k,v)]
theorem zck {p : κ × V} {r:List (κ × V)} {k : κ} (e:p.1=k):valV (p :: r) k=some p.2:=by simp [valV,List.find?_cons,e]
theorem zb1 {p : κ × V} {r:List (κ × V)} {k : κ} (e:¬ p.1=k):valV (p :: r) k=valV r k:=by simp [valV,List.find?_cons,e]
theorem zbE (k : κ):∀ kvs:List (κ × V),(kvs.any fun kv=>decide (kv.1=k))=(valV kvs k).isSome
 | []=>rfl
 | p :: r=>by
  rw [List.any_cons]
  by_cases e:p.1=k
  ·simp only [zck e,decide_eq_true e,Bool.true_or,Option.isSome_some]
  ·rw [zb1 e,decide_eq_false e,Bool.false_or]; exact zbE k r
theorem zcf (kvs:List (κ × V)) (k : κ) (v:V):(putK kvs k v).length<=kvs.length + 1:=by
 unfold putK
 split
 ·rw [List.length_map]; omega
 ·rw [List.length_append,List.length_cons,List.length_nil]; omega
theorem zfx {kvs:List (κ × V)} {k : κ} (v:V) (h:valV kvs k=none):putK kvs k v=kvs ++ [(k,v)]:=by
 unfold putK
 rw [zbE,h]
 exact if_neg (by decide)
theorem RelO.isSome_eq {o:Option V} {u:Option Value} (r:RelO o u):o.isSome=u.isSome:=by
 cases o with
 | none=>cases u with
  | none=>rfl
  | some _=>exact (show False from r).elim
 | some _=>cases u with
  | none=>exact (show False from r).elim
  | some _=>rfl
theorem KV.val {kvs:List (κ × V)} {vs:List (κ × Value)} (r:KV kvs vs) (k : κ):RelO (valV kvs k) (valueAt vs k):=by
 unfold KV at r
 induction r with
 | nil=>exact True.intro
 | @cons p q ps qs h t ih =>
  obtain ⟨h1,h2⟩:=h
  by_cases e:p.1=k
  ·have e':q.1=k:=h1.symm.trans e
   have b:valueAt (q :: qs) k=some q.2:=by simp [valueAt,List.find?_cons,e']
   rw [zck e,b]; exact h2
  ·have e':¬ q.1=k:=fun z=>e (h1.trans z)
   have b:valueAt (q :: qs) k=valueAt qs k:=by simp [valueAt,List.find?_cons,e']
   rw [zb1 e,b]; exact ih
theorem KV.any {kvs:List (κ × V)} {vs:List (κ × Value)} (r:KV kvs vs) (k : κ):(kvs.any fun kv=>decide (kv.1=k))=vs.any fun kv=>decide (kv.1=k):=by
 unfold KV at r
 induction r with
 | nil=>rfl
 | cons h t ih=>rw [List.any_cons,List.any_cons,ih,h.1]
theorem KV.repl {kvs:List (κ × V)} {vs:List (κ × Value)} (r:KV kvs vs) (k : κ) {y:V} {u:Value} (ry:RelV y u) :
  KV (kvs.map fun kv=>if kv.1=k then (kv.1,y) else kv) (vs.map fun kv=>if kv.1=k then (kv.1,u) else kv):=by
 unfold KV at r ⊢
 induction r with
 | nil=>exact .nil
 | @cons p q ps qs h t ih =>
  rw [List.map_cons,List.map_cons]
  refine .cons ?_ ih
  obtain ⟨h1,h2⟩:=h
  by_cases e:p.1=k
  ·rw [if_pos e,if_pos (h1.symm.trans e)]; exact ⟨h1,ry⟩
  ·rw [if_neg e,if_neg (fun z=>e (h1.trans z))]; exact ⟨h1,h2⟩
theorem KV.put {kvs:List (κ × V)} {vs:List (κ × Value)} (r:KV kvs vs) (k : κ) {y:V} {u:Value} (ry:RelV y u):KV (putK kvs k y) (stored vs k u):=by
 unfold putK stored
 rw [r.any k]
 by_cases e:(vs.any fun kv=>decide (kv.1=k))=true
 ·rw [if_pos e,if_pos e]; exact r.repl k ry
 ·rw [if_neg e,if_neg e]; exact Paired.snoc r ⟨rfl,ry⟩
theorem KV.length {kvs:List (κ × V)} {vs:List (κ × Value)} (r:KV kvs vs):kvs.length=vs.length:=Paired.length r
end
theorem zgt {P:Program} {w:World} {k:Key} {u:Value} (r:RelV (kV k) u):(mixKind P w).is k u=true:=by
 cases k with
 | inl i=>obtain ⟨t,e⟩:=(show ∃ t,u=Value.int i t from r); subst e; exact mixKind_int P w i t
 | inr x=>obtain ⟨t,e⟩:=(show ∃ t,u=Value.str x t from r); subst e; exact mixKind_str P w x t
theorem zeE {P:Program} {w:World}:∀ {ks:List Key} {us:List Value},Vals (ks.map kV) us->ItemsAre (mixKind P w) ks us
 | [],_,r=>by rw [List.map_nil] at r; cases r; exact .nil
 | k :: ks,_,r=>by
  rw [List.map_cons] at r
  cases r with
  | cons h t=>exact .cons (zgt h) (zeE t)
noncomputable abbrev KT (H:Hp):List (List Key×V)->List (List Key×Addr×Value)->Prop:=Paired fun p q=>p.1=q.1/\H q.2.1=some (.tup (p.1.map kV))/\RelV p.2 q.2.2
theorem KT.val {H:Hp} {kvs:List (List Key×V)} {xs:List (List Key×Addr×Value)} (r:KT H kvs xs) (k:List Key):RelO (valV kvs k) ((atKey xs k).map (·.2)):=by
 induction r with
 | nil=>exact True.intro
 | @cons p q ps qs h t ih =>
  obtain ⟨h1,_,h2⟩:=h
  by_cases e:p.1=k
  ·have e':q.1=k:=h1.symm.trans e
   have b:atKey (q :: qs) k=some q.2:=by simp [atKey,List.find?_cons,e']
   rw [zck e,b]; exact h2
  ·have e':¬ q.1=k:=fun z=>e (h1.trans z)
   have b:atKey (q :: qs) k=atKey qs k:=by simp [atKey,List.find?_cons,e']
   rw [zb1 e,b]; exact ih
theorem KT.repl {H:Hp} {kvs:List (List Key×V)} {xs:List (List Key×Addr×Value)} (r:KT H kvs xs) (k:List Key) {y:V} {u:Value} (ry:RelV y u) :
  KT H (kvs.map fun kv=>if kv.1=k then (kv.1,y) else kv) (xs.map (putAt k u)):=by
 induction r with
 | nil=>exact .nil
 | @cons p q ps qs h t ih =>
  rw [List.map_cons,List.map_cons]
  refine .cons ?_ ih
  obtain ⟨h1,h2,h3⟩:=h
  unfold putAt
  by_cases e:p.1=k
  ·rw [if_pos e,if_pos (h1.symm.trans e)]; exact ⟨h1,h2,ry⟩
  ·rw [if_neg e,if_neg (fun z=>e (h1.trans z))]; exact ⟨h1,h2,h3⟩
theorem KT.put {H:Hp} {kvs:List (List Key×V)} {xs:List (List Key×Addr×Value)} (r:KT H kvs xs) (k:List Key) {b:Addr} {y:V} {u:Value} (hb:H b=some (.tup (k.map kV))) (ry:RelV y u) :
  KT H (putK kvs k y) (storedH xs k b u):=by
 have e:(kvs.any fun kv=>decide (kv.1=k))=(atKey xs k).isSome:=by
  rw [zbE,(r.val k).isSome_eq,Option.isSome_map]
 unfold putK storedH
 rw [e]
 by_cases q:(atKey xs k).isSome=true
 ·rw [if_pos q,if_pos q]; exact r.repl k ry
 ·rw [if_neg q,if_neg q]; exact Paired.snoc r ⟨rfl,hb,ry⟩
theorem KT.keeps {H H':Hp} {kvs:List (List Key×V)} {xs:List (List Key×Addr×Value)} (r:KT H kvs xs) (ht:∀ b ys,H b=some (.tup ys)->H' b=some (.tup ys)):KT H' kvs xs :=
 Paired.mapP r fun _ _ z=>⟨z.1,ht _ _ z.2.1,z.2.2⟩
section
variable {P:Program} {w:World} {H:Hp} {h:Heap} {a:Addr}
theorem zhz {u:HO} (ok:HOk P w H h) (e:Rd H a u):ObjOk P w H h a u:=e.ok ok
theorem ze5 {kvs:List (Key×V)} (ok:HOk P w H h) (e:Rd H a (.dK kvs)):kvs.length<=sizeLine/\(a == sysModules)=false/\∃ vs,KV kvs vs/\h.DictOf (mixKind P w) a vs :=
 show ObjOk P w H h a (.dK kvs) from zhz ok e
theorem dk_of {kvs:List (Key×V)} (ok:HOk P w H h) (e:H a=some (.dK kvs)):kvs.length<=sizeLine/\(a == sysModules)=false/\∃ vs,KV kvs vs/\h.DictOf (mixKind P w) a vs:=ze5 ok (.inl e)
theorem zeD {ks:List Key} (ok:HOk P w H h) (e:H a=some (.tup (ks.map kV))):(tupleKind (mixKind P w)).is h ks a:=by
 obtain ⟨_,its,r,o,h1,h2,n,h3⟩:=(show ObjOk P w H h a (.tup (ks.map kV)) from ok a _ e)
 exact ⟨o,its.toArray,n,h1,h2,h3,by simpa using zeE r⟩
theorem zgF {kvs:List (List Key×V)} (ok:HOk P w H h) (e:Rd H a (.dT kvs)):kvs.length<=sizeLine/\(a == sysModules)=false /\
  ∃ xs,KT H kvs xs/\h.DictOfH (tupleKind (mixKind P w)) a xs:=by
 obtain ⟨z,y,xs,r,o,es,ep,h1,h2,h3,h4,h5⟩:=(show ObjOk P w H h a (.dT kvs) from zhz ok e)
 refine ⟨z,y,xs,r,o,es,ep,h1,h2,h3,h4,fun x hx => ?_,h5⟩
 have all:∀ {l:List (List Key×V)} {m:List (List Key×Addr×Value)},KT H l m->∀ x∈m,(tupleKind (mixKind P w)).is h x.1 x.2.1:=by
  intro l m q
  induction q with
  | nil=>intro x hx; exact nomatch hx
  | @cons p q ps qs hq t ih =>
   intro x hx
   rcases List.mem_cons.mp hx with e | hx
   ·subst e
    exact zeD ok (by rw [<- hq.1]; exact hq.2.1)
   ·exact ih x hx
 exact all r x hx
theorem dt_of {kvs:List (List Key×V)} (ok:HOk P w H h) (e:H a=some (.dT kvs)):kvs.length<=sizeLine/\(a == sysModules)=false /\
  ∃ xs,KT H kvs xs/\h.DictOfH (tupleKind (mixKind P w)) a xs:=zgF ok (.inl e)
end
noncomputable def DGet (H:Hp) (a:Addr) (y:V) (r:Option V):Prop :=
 (∃ kvs k,Rd H a (.dK kvs)/\y=kV k/\r=valV kvs k)\/∃ kvs k b,Rd H a (.dT kvs)/\y = .ref b/\H b=some (.tup (k.map kV))/\r=valV kvs k
noncomputable def DPut (H:Hp) (a:Addr) (y v:V) (H':Hp):Prop :=
 (∃ kvs k,H a=some (.dK kvs)/\y=kV k/\kvs.length < sizeLine/\H'=upd H a (.dK (putK kvs k v))) \/
 ∃ kvs k b,H a=some (.dT kvs)/\y = .ref b/\H b=some (.tup (k.map kV))/\kvs.length < sizeLine/\H'=upd H a (.dT (putK kvs k v))
theorem DGet.k {H:Hp} {a:Addr} {kvs:List (Key×V)} {k:Key} (e:H a=some (.dK kvs)):DGet H a (kV k) (valV kvs k) := .inl ⟨kvs,k,.inl e,rfl,rfl⟩
theorem DGet.t {H:Hp} {a b:Addr} {kvs:List (List Key×V)} {k:List Key} (e:H a=some (.dT kvs)) (eb:H b=some (.tup (k.map kV))):DGet H a (.ref b) (valV kvs k) := .inr ⟨kvs,k,b,.inl e,rfl,eb,rfl⟩
theorem DPut.k {H:Hp} {a:Addr} {kvs:List (Key×V)} {k:Key} {v:V} (e:H a=some (.dK kvs)) (hl:kvs.length < sizeLine):DPut H a (kV k) v (upd H a (.dK (putK kvs k v))) := .inl ⟨kvs,k,e,rfl,hl,rfl⟩
theorem DPut.t {H:Hp} {a b:Addr} {kvs:List (List Key×V)} {k:List Key} {v:V} (e:H a=some (.dT kvs)) (eb:H b=some (.tup (k.map kV))) (hl:kvs.length < sizeLine) :
  DPut H a (.ref b) v (upd H a (.dT (putK kvs k v))) := .inr ⟨kvs,k,b,e,rfl,eb,hl,rfl⟩
section
variable {X:Cx} {pins:List (Addr×Obj)} {σ : St} {H:Hp} {s:Shared} {a:Addr} {y v:V} {u r:Value} {o:Option V} {A:Around} {E:Value->Shared->Prop}
theorem Inv.big (I:Inv X pins σ H s):sysModules < s.heap.objs.size:=by
 have h:mainGlobals < s.heap.objs.size:=(I.mod.glob.keeps I.bk).lt
 exact Nat.lt_trans (by decide) h
theorem d_getItem {Q:Value->Shared->Prop} (hu:A.units + 1 < cLine) (I:Inv X pins σ H s) (g:DGet H a y (some v)) (ry:RelV y u) (h:∀ w' s',Inv X pins σ H s'->RelV v w'->Q w' s') :
  wpAny (model X.prog X.w) A (getItem (.ref a) u) Q E s:=by
 rcases g with ⟨kvs,k,e,ey,l⟩ | ⟨kvs,k,b,e,ey,eb,l⟩
 ·subst ey
  obtain ⟨z,hd,vs,rel,dd⟩:=ze5 I.hok e
  obtain ⟨w',hw,rw'⟩:=RelO.some_of (v:=v) (o:=valueAt vs k) (by rw [l]; exact rel.val k)
  exact wpAny_getItem_of (zgt ry) dd.mapOf hw (h w' _ (I.tok _) rw')
 ·subst ey
  cases (show u=Value.ref b from ry)
  obtain ⟨z,hd,xs,rel,dd⟩:=zgF I.hok e
  obtain ⟨w',hw,rw'⟩:=RelO.some_of (v:=v) (o:=(atKey xs k).map (·.2)) (by rw [l]; exact rel.val k)
  obtain ⟨p,hp,hp2⟩:=Option.map_eq_some_iff.mp hw
  refine wpAny_getItem_heap (tupleKind_room_in1 hu) (zeD I.hok eb) dd hp ?_
  rw [hp2]
  exact h w' _ (I.tok _) rw'
theorem d_in {Q:Value->Shared->Prop} (hu:A.units + 1 < cLine) (I:Inv X pins σ H s) (g:DGet H a y o) (ry:RelV y u) (h:∀ s',Inv X pins σ H s'->Q (.bool o.isSome) s') :
  wpAny (model X.prog X.w) A (compareOp .In u (.ref a)) Q E s:=by
 rcases g with ⟨kvs,k,e,ey,l⟩ | ⟨kvs,k,b,e,ey,eb,l⟩
 ·subst ey
  obtain ⟨z,hd,vs,rel,dd⟩:=ze5 I.hok e
  refine wpAny_in_of (zgt ry) hd dd.mapOf ?_
  rw [<- (rel.val k).isSome_eq,<- l]
  exact h _ (I.tok _)
 ·subst ey
  cases (show u=Value.ref b from ry)
  obtain ⟨z,hd,xs,rel,dd⟩:=zgF I.hok e
  refine wpAny_in_heap (tupleKind_room_in1 hu) (zeD I.hok eb) hd dd ?_
  have q:=(rel.val k).isSome_eq
  rw [Option.isSome_map] at q
  rw [<- q,<- l]
  exact h _ (I.tok _)
theorem d_notIn {Q:Value->Shared->Prop} (hu:A.units + 1 < cLine) (I:Inv X pins σ H s) (g:DGet H a y o) (ry:RelV y u) (h:∀ s',Inv X pins σ H s'->Q (.bool (!o.isSome)) s') :
  wpAny (model X.prog X.w) A (compareOp .NotIn u (.ref a)) Q E s:=by
 rcases g with ⟨kvs,k,e,ey,l⟩ | ⟨kvs,k,b,e,ey,eb,l⟩
 ·subst ey
  obtain ⟨z,hd,vs,rel,dd⟩:=ze5 I.hok e
  refine wpAny_notIn_of (zgt ry) hd dd.mapOf ?_
  rw [<- (rel.val k).isSome_eq,<- l]
  exact h _ (I.tok _)
 ·subst ey
  cases (show u=Value.ref b from ry)
  obtain ⟨z,hd,xs,rel,dd⟩:=zgF I.hok e
  refine wpAny_notIn_heap (tupleKind_room_in1 hu) (zeD I.hok eb) hd dd ?_
  have q:=(rel.val k).isSome_eq
  rw [Option.isSome_map] at q
  rw [<- q,<- l]
  exact h _ (I.tok _)
theorem zgK {h':Heap} {t':Nat} {ob:HO} (I:Inv X pins σ H s) (mu:Mut (H a)) (hs:Heap.SameBut a s.heap h') (he:∃ q,h'.get? a=some q) (new:ObjOk X.prog X.w (upd H a ob) h' a ob) :
  Inv X pins σ (upd H a ob) { s with heap:=h',toks:=t' } :=
 I.write (x:=a) (e:=a) mu (.inl rfl) (fun b q hb z=>(hs.2 b hb).trans z) he new
theorem zhd {P:Program} {w:World} {H':Hp} {h':Heap} {kvs:List (Key×V)} {vs:List (Key×Value)} (z:kvs.length<=sizeLine) (hd:(a == sysModules)=false) (rel:KV kvs vs) (dd:h'.DictOf (mixKind P w) a vs) :
  ObjOk P w H' h' a (.dK kvs):=⟨z,hd,vs,rel,dd⟩
theorem d_setItem {H':Hp} {Q:Unit->Shared->Prop} (hu:A.units + 1 < cLine) (I:Inv X pins σ H s) (g:DPut H a y v H') (ry:RelV y u) (rv:RelV v r) (h:∀ s',Inv X pins σ H' s'->Q () s') :
  wpAny (model X.prog X.w) A (setItem (.ref a) u r) Q E s:=by
 rcases g with ⟨kvs,k,e,ey,l,eH⟩ | ⟨kvs,k,b,e,ey,eb,l,eH⟩
 ·subst ey eH
  obtain ⟨z,hd,vs,rel,dd⟩:=dk_of I.hok e
  have hz:vs.length<=sizeLine:=by rw [<- rel.length]; exact z
  have hl:(putK kvs k v).length<=sizeLine:=by have:=zcf kvs k v; omega
  refine wpAny_setItem_pairs (hsz:=hz) (zgt ry) dd fun h' dd' hs=>h _ ?_
  have he:∃ q,h'.get? a=some q:=let ⟨q,_,_,hq,_⟩:=dd'; ⟨q,hq⟩
  exact zgK I (by rw [e]; exact True.intro) hs he (zhd hl hd (rel.put k rv) dd')
 ·subst ey eH
  cases (show u=Value.ref b from ry)
  obtain ⟨z,hd,xs,rel,dd⟩:=dt_of I.hok e
  have hz:xs.length<=sizeLine:=by rw [<- Paired.length rel]; exact z
  have hl:(putK kvs k v).length<=sizeLine:=by have:=zcf kvs k v; omega
  refine wpAny_setItem_heap (hsz:=hz) (tupleKind_room_in1 hu) (zeD I.hok eb) dd fun h' dd' hs=>h _ ?_
  obtain ⟨q,es,ep,hq,h2,h3,h4,_,h5⟩:=dd'
  refine zgK I (by rw [e]; exact True.intro) hs ⟨q,hq⟩ ⟨hl,hd,_,(rel.put k eb rv).keeps fun c ys ec => ?_,q,es,ep,hq,h2,h3,h4,h5⟩
  rw [zah (zhC ec e (fun z=>nomatch z))]
  exact ec
end
section
variable {X:Cx} {pins:List (Addr×Obj)} {σ : St} {H:Hp} {s:Shared} {a:Addr} {kvs:List (Key×V)} {k:Key} {u:Value} {A:Around} {E:Value->Shared->Prop}
theorem d_len {Q:Value->Shared->Prop} (I:Inv X pins σ H s) (e:Rd H a (.dK kvs)) (h:∀ t s',Inv X pins σ H s'->Q (.int kvs.length t) s'):wpAny (model X.prog X.w) A (call (.builtin "len") [.ref a]) Q E s:=by
 obtain ⟨z,hd,vs,rel,dd⟩:=ze5 I.hok e
 refine call_len_dict hd dd (by rw [<- rel.length]; rw [sizeLine_eq] at z; omega) ?_
 rw [<- rel.length]
 exact h _ _ (I.tok _)
end
noncomputable def NoSl (i:Expr):Prop:=∀ ov iv,subscripted i false ov iv=operate [ov,iv] (getItem ov iv)
theorem subD_of {prog:Program} {w:World} {A:Around} {E:Value->Shared->Prop} {s:Shared} {env:Env} {value slice:Expr} {pos:Pos} {T id:String} {Q:Value->Shared->Prop}
  (hl:typeLookup (.type T) "__getitem__" = pure (some (.builtin id))) (hs:NoSl slice)
  (h:wpAny (model prog w) A (eval value env) (fun o s₁ => wpAny (model prog w) A (eval slice env) (fun i s₂ => s₂.TypeIs o T/\wpAny (model prog w) A (getItem o i) Q E s₂) E s₁) E s) :
  wpAny (model prog w) A (eval (.Subscript value slice pos) env) Q E s:=by
 refine Subscript_ (wpAny_mono h (fun o s₁ h₁ => wpAny_mono h₁ (fun i s₂ h₂ => ?_) fun _ _ x=>x) fun _ _ x=>x)
 obtain ⟨hT,h₂⟩:=h₂
 unfold subscriptTail
 refine wpAny_bind ?_
 rw [getitemInPython_of_ne hT.not_modules]
 refine wpAny_bind (wpAny_specialOf hT hl ?_)
 have fin:wpAny (model prog w) A (subscripted slice false o i) (fun r s₃ => wpAny (model prog w) A (letTemporaryGo value o r >>= fun _=>pure r) Q E s₃) E s₂ := by
  rw [hs o i]
  exact wpAny_operating (wpAny_mono h₂ (fun r s₃ h₃ => wpAny_bind (wpAny_letTemporaryGo (wpAny_pure h₃))) fun _ _ x=>x)
 first
  | exact wpAny_pure (wpAny_bind fin)
  | exact wpAny_bind (wpAny_pure (wpAny_bind fin))
  | exact wpAny_bind fin
theorem dict_typeIs {X:Cx} {pins:List (Addr×Obj)} {σ : St} {H:Hp} {s:Shared} {a:Addr} {y:V} {o:Option V} (I:Inv X pins σ H s) (g:DGet H a y o):s.TypeIs (.ref a) "dict" := by
 rcases g with ⟨kvs,k,e,_,_⟩ | ⟨kvs,k,b,e,_,_,_⟩
 ·obtain ⟨_,_,vs,_,dd⟩:=ze5 I.hok e
  exact dd.typeIs
 ·obtain ⟨_,_,xs,_,dd⟩:=zgF I.hok e
  exact dd.typeIs
noncomputable def tDGet (td ty:TE):TE:=fun σ H Q=>td σ H fun x H1=>ty σ H1 fun y H2=>∃ a v,x = .ref a/\DGet H2 a y (some v)/\Q v H2
noncomputable def tDIn (ty td:TE):TE:=fun σ H Q=>ty σ H fun y H1=>td σ H1 fun x H2=>∃ a o,x = .ref a/\DGet H2 a y o/\Q (.bl o.isSome) H2
noncomputable def tDNotIn (ty td:TE):TE:=fun σ H Q=>ty σ H fun y H1=>td σ H1 fun x H2=>∃ a o,x = .ref a/\DGet H2 a y o/\Q (.bl (!o.isSome)) H2
noncomputable def sDPut (td ty tv:TE):TS:=fun D σ H=>tv σ H fun v H1=>td σ H1 fun x H2=>ty σ H2 fun y H3=>∃ a H4,x = .ref a/\DPut H3 a y v H4/\D.nx σ H4
section
variable {X:Cx} {o i e value:Expr} {pos pos' tpos:Pos} {td ty tv:TE}
theorem zgi (hu:X.A.units + 1 < cLine) (ho:PE X o td) (hi:PE X i ty) (hs:NoSl i):PE X (.Subscript o i pos) (tDGet td ty):=by
 intro pins s σ H Q I h
 refine subD_of PySem.F.slot_dict_getitem.lookup hs (thnE (ho pins s σ H _ I h) fun u s1 x H1 I1 rx q1=>thnE (hi pins s1 σ H1 _ I1 q1) fun iv s2 y H2 I2 ry ⟨a,v,ex,g,q2⟩ => ?_)
 subst ex
 obtain rfl:u=Value.ref a:=rx
 exact ⟨dict_typeIs I2 g,d_getItem hu I2 g ry fun w' s3 I3 rw'=>⟨v,H2,I3,rw',q2⟩⟩
theorem zg2 (hu:X.A.units + 1 < cLine) (hi:PE X i ty) (ho:PE X o td):PC X .In i o (tDIn ty td):=by
 intro pins s σ H Q I h
 refine thnE (hi pins s σ H _ I h) fun iv s1 y H1 I1 ry q1=>thnE (ho pins s1 σ H1 _ I1 q1) fun u s2 x H2 I2 rx ⟨a,ov,ex,g,q2⟩ => ?_
 subst ex
 obtain rfl:u=Value.ref a:=rx
 exact d_in hu I2 g ry fun s3 I3=>⟨.bl ov.isSome,H2,I3,rfl,q2⟩
theorem zeu (hu:X.A.units + 1 < cLine) (hi:PE X i ty) (ho:PE X o td):PC X .NotIn i o (tDNotIn ty td):=by
 intro pins s σ H Q I h
 refine thnE (hi pins s σ H _ I h) fun iv s1 y H1 I1 ry q1=>thnE (ho pins s1 σ H1 _ I1 q1) fun u s2 x H2 I2 rx ⟨a,ov,ex,g,q2⟩ => ?_
 subst ex
 obtain rfl:u=Value.ref a:=rx
 exact d_notIn hu I2 g ry fun s3 I3=>⟨.bl (!ov.isSome),H2,I3,rfl,q2⟩
theorem zd0 (hu:X.A.units + 1 < cLine) (ho:PE X o td) (hi:PE X i ty) (hv:PE X value tv) (hs:swapsWith value (some (.Subscript o i pos')) pos.line X.env=pure false) :
  PS X (.Assign [.Subscript o i pos'] value pos) (sDPut td ty tv):=by
 intro pins s σ H D I h
 refine wpAny_Assign_Subscript (thnE (hv pins s σ H _ I h) fun r s1 v H1 I1 rv q1=>thnE (ho pins s1 σ H1 _ I1 q1) fun u s2 x H2 I2 rx q2=>thnE (hi pins s2 σ H2 _ I2 q2) fun iv s3 y H3 I3 ry ⟨a,H4,ex,g,q3⟩ => ?_) hs
 subst ex
 obtain rfl:u=Value.ref a:=rx
 exact d_setItem hu I3 g ry rv fun s4 I4=>⟨σ,H4,I4,q3⟩
end
theorem dk_empty {P:Program} {w:World} {H:Hp} (h:Heap) (hb:sysModules < h.objs.size):ObjOk P w H (h.push { cls := .type "dict",data := .dict #[] }) h.objs.size (.dK []) :=
 ⟨Nat.zero_le _,beq_eq_false_iff_ne.mpr (Ne.symm (Nat.ne_of_lt hb)),[],.nil,Heap.DictOf.new h⟩
theorem dt_empty {P:Program} {w:World} {H:Hp} (h:Heap) (hb:sysModules < h.objs.size):ObjOk P w H (h.push { cls := .type "dict",data := .dict #[] }) h.objs.size (.dT []) :=
 ⟨Nat.zero_le _,beq_eq_false_iff_ne.mpr (Ne.symm (Nat.ne_of_lt hb)),[],.nil,_,#[],0,Heap.get?_push_size _ rfl,⟨rfl,rfl,rfl⟩,rfl,rfl,List.nodup_nil⟩
noncomputable def tDNewK:TE:=fun _ H Q=>∀ p,H p=none->Q (.ref p) (upd H p (.dK []))
noncomputable def tDNewT:TE:=fun _ H Q=>∀ p,H p=none->Q (.ref p) (upd H p (.dT []))
section
variable {X:Cx} {pos:Pos}
theorem zd1:PE X (.Dict [] [] pos) tDNewK:=fun pins s σ H Q I h =>
 wpAny_Dict_empty ⟨.ref s.heap.objs.size,_,I.laid (a:=s.heap.objs.size) (o := .dK []) (t':=s.toks) (fun _ _ q=>Heap.get?_push_of_some _ q) (Nat.le_refl _) (dk_empty s.heap I.big),rfl,h _ (I.hok.fresh (Nat.le_refl _))⟩
theorem pe_dnewT:PE X (.Dict [] [] pos) tDNewT:=fun pins s σ H Q I h =>
 wpAny_Dict_empty ⟨.ref s.heap.objs.size,_,I.laid (a:=s.heap.objs.size) (o := .dT []) (t':=s.toks) (fun _ _ q=>Heap.get?_push_of_some _ q) (Nat.le_refl _) (dt_empty s.heap I.big),rfl,h _ (I.hok.fresh (Nat.le_refl _))⟩
end
section
variable {X:Cx} {pins:List (Addr×Obj)} {σ : St} {H:Hp} {s:Shared} {a:Addr} {y d:V} {u r:Value} {o:Option V} {A:Around} {E:Value->Shared->Prop}
end
section
variable {X:Cx} {o e f:Expr} {apos cpos:Pos} {td ty tx:TE}
end
section
variable {X:Cx} {pins:List (Addr×Obj)} {σ : St} {H:Hp} {s:Shared} {a:Addr} {kvs:List (Key×V)} {A:Around} {E:Value->Shared->Prop}
theorem d_copyOf {Q:Value->Shared->Prop} (I:Inv X pins σ H s) (e:Rd H a (.dK kvs)) (h:∀ p s',H p=none->Inv X pins σ (upd H p (.dK kvs)) s'->Q (.ref p) s'):wpAny (model X.prog X.w) A (call (.type "dict") [.ref a]) Q E s:=by
 obtain ⟨z,hd,vs,rel,dd⟩:=ze5 I.hok e
 refine kt_call_dict hd dd (by rw [<- rel.length]; exact z) fun h' dd' hs => ?_
 refine h _ _ (I.hok.fresh (Nat.le_refl _)) (I.laid (a:=s.heap.objs.size) (o := .dK kvs) (t':=s.toks) (fun b q hq => ?_) (Nat.le_refl _) (zhd z (beq_eq_false_iff_ne.mpr (Ne.symm (Nat.ne_of_lt I.big))) rel dd'))
 exact (hs.2 b (Nat.ne_of_lt (Heap.lt_size hq))).trans (Heap.get?_push_of_some _ hq)
end
section
variable {X:Cx} {pins:List (Addr×Obj)} {σ : St} {H:Hp} {s:Shared} {a:Addr} {y:V} {u:Value} {A:Around} {E:Value->Shared->Prop}
end
end L2
namespace Att
open PySem PySem.W PySem.Calls PyProof.Rows
theorem ints_of_wellAll {P:Params} {h:Heap}:∀ (ns:List Int) (vs:List Value),WellAll P h vs (ns.map WData.int)->IntsAre vs ns:=by
 intro ns
 induction ns with
 | nil =>
  intro vs w
  rw [List.map_nil] at w
  cases w
  exact .nil
 | cons n ns ih =>
  intro vs w
  rw [List.map_cons] at w
  cases w with
  | cons a b =>
   cases a
   exact .cons _ _ (ih _ b)
theorem script_of {l:OpenLaw} {n:Nat} (hn:l.most=some n) {P:Params} {h:Heap} {args:List WData} {vals:List Value}
  (hpre:l.row.toRowW.claim.pre args=true) (hwl:WellAll P h vals args) :
  ∃ a vs ns,vals = [Value.ref a]/\args = [WData.list (ns.map WData.int)]/\h.get? a=some { cls := .type "list",data := .seq vs.toArray }/\IntsAre vs ns/\ns.length<=n:=by
 have hsh:WShape.hasAll [] args [.list .int]=true:=(pre_splitW hpre).1
 have hc:l.pre.holds [] { args:=args }=true:=(pre_splitW hpre).2
 obtain ⟨d,r,rfl,h1,h2⟩:=hasAllW_cons hsh
 obtain rfl:=hasAllW_nil h2
 obtain ⟨xs,rfl,h3⟩:=hasW_list h1
 obtain ⟨ns,rfl⟩:=items_int h3
 have hlen:ns.length<=n:=by
  unfold OpenLaw.pre at hc
  have h4:(WTm.not (.lt (.lit (.int (n:Int))) (.len (.arg 0)))).holds [] { args := [.list (ns.map .int)] }=true:=by
   have h4:=(holds_andW hc).1
   rw [hn] at h4
   exact h4
  have h5:=condW_of h4 (w_not (w_lt w_lit (w_len_list (w_arg rfl))))
  rw [List.length_map] at h5
  refine Nat.le_of_not_lt fun q => ?_
  have q':(n:Int) < ((ns.length:Nat):Int):=by omega
  first
   | (rw [decide_eq_true q'] at h5; exact absurd h5 (by decide))
   | (simp at h5; omega)
 cases hwl with
 | cons w1 w2 =>
  cases w2
  cases w1 with
  | list ho hall=>exact ⟨_,_,ns,rfl,rfl,ho,ints_of_wellAll ns _ hall,hlen⟩
theorem post_true (l:OpenLaw) (args:List WData):l.row.toRowW.claim.post args (.bool true) args=true :=
 postW_of (r:=l.row.toRowW) (X:=(true == true))
  (show WShape.has [] (.bool true) .bool=true by first | rfl | decide | simp [WShape.has,WShape.arms,WShape.armsAll])
  (show (WTm.eq .res (.lit (.bool true))).value [] { args:=args,res:=some (.bool true),after:=args }=some (.bool (true == true)) from w_eq_bool (w_res rfl) w_lit) rfl
theorem attach_call {l:OpenLaw} {n:Nat} {q:Program} {loose:List Str} {XP:(Str->Option Value)->Heap->Prop} {YP:World->Heap->Prop} {d:DefRec}
  (hn:l.most=some n) (hdf:d.params.defaults = [])
  (call:∀ (w:World) (s₀ s₁ : Shared) (mg mb:Str->Option Value) (fa:Addr) (o:Obj) (pm cd doc:Value) (a:Addr) (vs:List Value) (ns:List Int),
   Ground q loose [] XP w s₀ mg mb s₁.heap->YP w s₁.heap ->
   s₁.heap.get? fa=some o->o.data = .func (docDef d.name d.params d.body d.scope pm cd doc)->s₁.heap.CodeRec cd d.name->mg d.name=some (.ref fa) ->
   s₁.heap.get? a=some { cls := .type "list",data := .seq vs.toArray }->IntsAre vs ns->ns.length<=n->s₁.gens = #[] ->
   codeAny (model l.prog w) callerA (.call (.ref fa) ⟨[.ref a],[]⟩) (fun r s'=>r = .ok (.ret (.bool true))/\OldK s₁.heap s'.heap/\s'.os=s₁.os/\AllBare s'.gens) s₁) :
  WalkO q loose XP YP l.row.toRowW d [] (fun f vs=>PySem.call f vs):=by
 intro w s₀ s₁ mg mb G Y fa o pm cd doc dV kV ho hd hcd hD hmg hg args vals as hpre hlay hrd hwl hlo
 obtain rfl:dV = .none:=Dflts.none hD hdf
 obtain rfl:kV = .none:=Dflts.noKw hD
 obtain ⟨a,vs,ns,rfl,rfl,hobj,hints,hlen⟩:=script_of hn hpre hwl
 refine enter_call (codeAny_mono (call w s₀ s₁ mg mb fa o pm cd doc a vs ns G Y ho (fd_plain hd) hcd hmg hobj hints hlen hg) fun r s' hq => ?_)
 obtain ⟨rfl,h2,h3,h4⟩:=hq
 exact ⟨.inl ⟨.bool true,.bool true,[],rfl,fun _=>rfl,.bool true,post_true l _,fun _=>⟨List.Pairwise.nil,fun _ hm=>(nomatch hm)⟩⟩,h2,h3,h4⟩
section
variable {prog:Program} {w:World} {A:Around} {E:Value->Shared->Prop} {s:Shared} {K:Frag}
noncomputable def ledger (h:Heap) (L d:Addr):List (Addr×Obj):=(List.range h.objs.size).filterMap fun a=>if a=L\/a=d then none else (h.get? a).map fun o=>(a,o)
end
end Att
namespace L2
open PySem PySem.Spec PyProof.Rows
theorem zcj:∀ {vs:List Value} {ns:List Int},IntsAre vs ns->Vals (ns.map V.int) vs
 | _,_,.nil => .nil
 | _,_,.cons n t h => .cons ⟨t,rfl⟩ (zcj h)
noncomputable def Only (H:Hp):Prop:=∀ b,H b=none\/∃ o xs,H b=some (.frz o (.lst xs))
theorem law_call {P:Program} {w:World} {K:W.Frag} {mg mb:Str->Option Value} {CX:CXT} {k:Nat} {fa a:Addr} {fd:FuncData} {x:Str} {sp:Sp} {s₁ : Shared} {vs:List Value} {ns:List Int}
  (KX:K.In s₁.heap) (hns:s₁.heap.Ns mainGlobals mg) (hb:s₁.heap.Ns builtinsNs mb) (hbb:∀ x:Str,x ≠ "__name__" -> mb x=bootBuiltins x) (hlim:s₁.heap.NoLimit) (hg:s₁.gens = #[])
  (ha:s₁.heap.get? a=some { cls := .type "list",data := .seq vs.toArray }) (hi:IntsAre vs ns) (hl:ns.length<=sizeLine) (hr:Room k callerA)
  (F:∀ base:Heap,K.In base->base.Ns mainGlobals mg->FnOk P w K mg base CX k fa fd [x] sp) (hbind:∀ (s:Shared) (u:Value),BindsTo s fd ⟨[u],[]⟩ [(x,u)])
  (hsp:∀ H:Hp,Only H->SqL K H a (ns.map V.int)->sp [.ref a] H (fun v _=>v = .bl true) fun _ _ _=>False)
  (hCX:∀ H e s',CX [] H s₁ (fun _ _ _=>False) e s'->False) :
  codeAny (model P w) callerA (.call (.ref fa) ⟨[.ref a],[]⟩) (fun r s'=>r = .ok (.ret (.bool true))/\OldK s₁.heap s'.heap/\s'.os=s₁.os/\AllBare s'.gens) s₁ := by
 have rv:=zcj hi
 have lenV:=hi.length
 have core:∀ H:Hp,Only H->SqL K H a (ns.map V.int)->HOk P w H s₁.heap->(∀ b,H b≠none->b=a)->(H a≠none->K.lookup a=none) ->
   codeAny (model P w) callerA (.call (.ref fa) ⟨[.ref a],[]⟩) (fun r s'=>r = .ok (.ret (.bool true))/\OldK s₁.heap s'.heap/\s'.os=s₁.os/\AllBare s'.gens) s₁ := by
  intro H hO hS hok hA hK
  have base_of:∀ {b:Addr} {o:Obj},s₁.heap.get? b=some o->H b=none->(hidT s₁.heap H).get? b=some o:=fun e n=>hidT_get e n
  have noA:∀ {b:Addr} {o:Obj} {es:Array DictEntry} {ep:Nat},s₁.heap.get? b=some o->o.data = .dict es ep->H b=none:=fun {b o es ep} e d=>by
   cases q:H b with
   | none=>rfl
   | some u =>
    have e':b=a:=hA b (by rw [q]; simp)
    subst e'
    rw [ha] at e; cases e
    have d':Data.seq vs.toArray _=Data.dict es ep:=d
    cases d'
  have nsK:∀ {b:Addr} {m:Str->Option Value},s₁.heap.Ns b m->(hidT s₁.heap H).Ns b m:=fun {b m} ⟨o,es,ep,e,d,r⟩=>⟨o,es,ep,base_of e (noA e d),d,r⟩
  have hKb:K.In (hidT s₁.heap H):=fun b o e=>base_of (KX b o e) (by
   cases q:H b with
   | none=>rfl
   | some u =>
    have e':b=a:=hA b (by rw [q]; simp)
    subst e'
    rw [hK (by rw [q]; simp)] at e; cases e)
  have hM:Mod K mg (hidT s₁.heap H):=⟨hKb,nsK hns,⟨mb,nsK hb,hbb⟩,let ⟨mc,h1,h2⟩:=hlim; ⟨mc,nsK h1,h2⟩⟩
  have e0:Env0 P w K mg (hidT s₁.heap H) callerA [] s₁ H:=⟨rfl,hM,fun b o e=>of_hidT e,Nat.le_of_eq (hidT_size _ _),trivial,fun b hb=>absurd (show b∈([]:List Addr) from hb) (by simp),hok,.of_eq hg⟩
  refine codeAny_mono ((F _ hKb (nsK hns)).run callerA [] s₁ H ⟨[.ref a],[]⟩ [.ref a] [.ref a] _ _ hr e0 (hbind s₁ (.ref a)) (.cons rfl .nil) (hsp H hO hS)) fun r s' h => ?_
  cases r with
  | error e=>exact (hCX H e s' h).elim
  | ok fl =>
   cases fl with
   | next=>exact False.elim h
   | brk=>exact False.elim h
   | cont=>exact False.elim h
   | ret u =>
    obtain ⟨v,H',os,bare,un,hok',r',q⟩:=h
    have q':v = .bl true:=q
    subst q'
    obtain rfl:u=Value.bool true:=r'
    refine ⟨rfl,OldK.of_keep fun b o e => ?_,os,bare⟩
    cases q:H b with
    | none=>exact un.keep b o e q (by intro z; exact absurd (show b∈([]:List Addr) from z) (by simp)) (by simp)
    | some u =>
     rcases hO b with z | ⟨ob,xs,z⟩
     ·rw [q] at z; cases z
     ·have z2:=un.frzs b ob _ z
      obtain ⟨e1,_⟩:=hok b _ z
      obtain ⟨e2,_⟩:=hok' b _ z2
      rw [e] at e1; cases e1
      exact e2
 cases hk:K.lookup a with
 | some o =>
  have e:=KX a o hk
  rw [ha] at e
  cases e
  refine core (fun _=>none) (fun _ => .inl rfl) (.inr ⟨_,vs.toArray,_,hk,rfl,rfl,rfl,by rw [List.size_toArray,lenV]; exact hl,by simpa using rv⟩) (fun b u z=>by have z':(none:Option HO)=some u:=z; cases z') (fun b z=>absurd rfl z) fun z=>absurd rfl z
 | none =>
  refine core (fun b=>if b=a then some (.frz { cls := .type "list",data := .seq vs.toArray } (.lst (ns.map V.int))) else none) (fun b => ?_) (.inl (.inr ⟨{ cls := .type "list",data := .seq vs.toArray },if_pos rfl⟩)) (fun b u z => ?_) (fun b z => ?_) fun _=>hk
  ·by_cases hb:b=a
   ·exact .inr ⟨_,_,if_pos hb⟩
   ·exact .inl (if_neg hb)
  ·by_cases hb:b=a
   ·have z':=(if_pos hb).symm.trans z
    cases z'
    subst hb
    exact ⟨ha,by rw [List.length_map]; exact hl,vs,_,rv,ha⟩
   ·have z':=(if_neg hb).symm.trans z
    cases z'
  ·by_cases hb:b=a
   ·exact hb
   ·exact absurd (if_neg hb) z
theorem walk_of {l:PySem.W.OpenLaw} {n k:Nat} {q:Program} {loose:List Str} {XP:(Str->Option Value)->Heap->Prop} {YP:World->Heap->Prop} {d:DefRec} {K:Params->W.Frag} {CX:World->CXT} {sp:World->Sp} {x:Str}
  (hn:l.most=some n) (hn2:n<=sizeLine) (hdf:d.params.defaults = []) (hr:Room k callerA)
  (hY:∀ (w:World) (h:Heap),YP w h->(K w.params).In h)
  (F:∀ (w:World) (mg:Str->Option Value) (fa:Addr) (h:Heap),(K w.params).In h->h.Ns mainGlobals mg->mg d.name=some (.ref fa) ->
   ∃ fd:FuncData,(∀ (s:Shared) (u:Value),BindsTo s fd ⟨[u],[]⟩ [(x,u)]) /\
    ∀ base:Heap,(K w.params).In base->base.Ns mainGlobals mg->FnOk l.prog w (K w.params) mg base (CX w) k fa fd [x] (sp w))
  (hsp:∀ (w:World) (H:Hp) (a:Addr) (ns:List Int),ns.length<=n->Only H->SqL (K w.params) H a (ns.map V.int)->sp w [.ref a] H (fun v _=>v = .bl true) fun _ _ _=>False)
  (hCX:∀ (w:World) (H:Hp) (s:Shared) (e:Value) (s':Shared),CX w [] H s (fun _ _ _=>False) e s'->False) :
  PySem.W.WalkO q loose XP YP l.row.toRowW d [] (fun f vs=>PySem.call f vs):=by
 refine Att.attach_call hn hdf fun w s₀ s₁ mg mb fa o pm cd doc a vs ns G Y ho hd hcd hmg hobj hints hlen hg => ?_
 have KX:=hY w _ Y
 obtain ⟨fd,hb,hF⟩:=F w mg fa _ KX G.T.g hmg
 exact law_call KX G.T.g G.T.b G.T.builtins G.T.nolimit hg hobj hints (Nat.le_trans hlen hn2) hr hF hb (fun H hO hS=>hsp w H a ns hlen hO hS) fun H e s'=>hCX w H s₁ e s'
noncomputable def inClass (s:Stmt) (j:Nat):Stmt:=match s with
 | .ClassDef _ _ _ body _ _ _ _ _ _ _=>body.getD j (.Pass ⟨0,0,0,0⟩)
 | _ => .Pass ⟨0,0,0,0⟩
noncomputable def defArgs (s:Stmt):Arguments:=match s with
 | .FunctionDef _ a _ _ _ _ _ _ _ _=>a
 | _=>{ posonlyargs := [],args := [],vararg:=none,kwonlyargs := [],kw_defaults := [],kwarg:=none,defaults := [] }
noncomputable def defBody (s:Stmt):List Stmt:=match s with
 | .FunctionDef _ _ b _ _ _ _ _ _ _=>b
 | _ => []
noncomputable def defScope (s:Stmt):Scope:=match s with
 | .FunctionDef _ _ _ _ _ _ sc _ _ _=>sc
 | _=>{ kind := .function,names := [],isGenerator:=false,isCoroutine:=false }
noncomputable abbrev CX0:CXT:=fun _ _ _ _ _ _=>False
noncomputable abbrev E0:XK:=fun _ _ _=>False
theorem zdn {X:Cx}:Passes CX0 X E0:=fun _ _ _ _ _ _ _ h=>h.elim
structure Fun (K:W.Frag) (x qual:Str) (st:Stmt) (f:Addr) (fd:FuncData):Prop where
 ex:∃ (oc:Value) (od:Option Addr) (kV doc pm:Value) (an:Option Addr) (cdv ct:Value) (osl:Array (Option Value)),
  fd=PySem.W.fnOf x qual (defArgs st) (defBody st) (defScope st) .none kV doc pm an cdv ct/\K.lookup f=some ⟨oc,od,.func fd,osl⟩/\PySem.W.codeIn K cdv qual=true
 kp:PySem.W.keepIn K (.ref f)=true
section
variable {P:Program} {w:World} {K:W.Frag} {mg:Str->Option Value} {base:Heap}
theorem Fun.ok {x qual:Str} {st:Stmt} {f:Addr} {fd:FuncData} {N ps:List Str} {k:Nat} {sp:Sp} (F:Fun K x qual st f fd) (S:FnScope N ps (defScope st)) (len:∀ vs H Q E,sp vs H Q E->vs.length=ps.length)
  (hbody:∀ (cdv:Value) (A:Around) (outer:List Env) (s:Shared) (H:Hp) (vs:List V) (Q:VK) (E:XK),Room k (A.deeper (envOfC qual (defScope st) s.heap.objs.size f cdv))->sp vs H Q E ->
   ∃ t,PSs (cxOf CX0 P w K mg base N qual (defScope st) f cdv A outer s H E).nox (defBody st) t/\t { nx:=fun _ H'=>Q .non H',rt:=Q } (start N vs) H):FnOk P w K mg base CX0 (k + 1) f fd ps sp:=by
 obtain ⟨oc,od,kV,doc,pm,an,cdv,ct,osl,rfl,lk,hcd⟩:=F.ex
 refine zhD lk hcd S len fun A outer s H vs Q E hr hsp => ?_
 obtain ⟨t,h,q⟩:=hbody cdv A outer s H vs Q E hr hsp
 exact ⟨t,h.nox,q⟩
theorem Fun.binds {x qual:Str} {st:Stmt} {f:Addr} {fd:FuncData} {ps:List Str} (F:Fun K x qual st f fd)
  (h:∀ (kV doc pm:Value) (an:Option Addr) (cdv ct:Value) (us:List Value),us.length=ps.length->bindArgs (PySem.W.fnOf x qual (defArgs st) (defBody st) (defScope st) .none kV doc pm an cdv ct) ⟨us,[]⟩=pure (ps.zip us)):Binds K fd ps []:=by
 obtain ⟨oc,od,kV,doc,pm,an,cdv,ct,osl,rfl,lk,hcd⟩:=F.ex
 exact .all (h kV doc pm an cdv ct)
theorem zgz {x qual:Str} {st:Stmt} {f:Addr} {oc:Value} {od an:Option Addr} {osl:Array (Option Value)} {kV doc pm cdv ct:Value} (l:K.lookup f=some ⟨oc,od,.func (PySem.W.fnOf x qual (defArgs st) (defBody st) (defScope st) .none kV doc pm an cdv ct),osl⟩)
  (c:PySem.W.codeIn K cdv qual=true) (k:PySem.W.keepIn K (.ref f)=true):Fun K x qual st f (PySem.W.fnOf x qual (defArgs st) (defBody st) (defScope st) .none kV doc pm an cdv ct):=⟨⟨oc,od,kV,doc,pm,an,cdv,ct,osl,rfl,l,c⟩,k⟩
end
theorem zdc {A:Around} {k:Nat} (hr:Room k A):A.units + 1 < cLine:=Nat.lt_of_le_of_lt (Nat.add_le_add_left (by decide:1<=64) _) hr.units
section
variable {X:Cx}
theorem pv (i:Nat) {x:Str} {pos:Pos} (hN:X.N[i]?=some x:=by rfl) (hv:Vis X.env.scope x:=by first | exact Or.inl rfl | exact Or.inr (Or.inl rfl) | exact Or.inr (Or.inr rfl)) (hd:(x == ("__debug__" : Str))=false:=by decide)
  (hcd:(x == ("__classdict__" : Str))=false:=by decide):PE X (.Name x pos) (tVar i):=pe_var hN hv hd hcd
theorem call_lenD:CallR X (.builtin "len") (fun xs H Q=>∃ a kvs,xs = [V.ref a]/\H a=some (.dK kvs)/\Q (.int kvs.length) H):=by
 intro pins s σ H xs us Q I r h
 obtain ⟨a,kvs,rfl,ha,q⟩:=h
 obtain ⟨u,rfl,ru⟩:=zcS r
 cases ru
 exact d_len I (.inl ha) fun t s' I'=>⟨.int kvs.length,H,I',⟨t,rfl⟩,q⟩
end
theorem iteF {A B:Prop} (h:B):if false=true then A else B:=by
 rw [if_neg Bool.false_ne_true]
 exact h
theorem iteT {A B:Prop} (h:A):if true=true then A else B:=by
 rw [if_pos rfl]
 exact h
theorem ite2 {c A B:Prop} [Decidable c] (h1:c->A) (h2:¬ c->B):if c then A else B:=by
 by_cases h:c
 ·rw [if_pos h]
  exact h1 h
 ·rw [if_neg h]
  exact h2 h
noncomputable def Same (H H':Hp):Prop:=∀ b o,H b=some o->H' b=some o
theorem Same.refl (H:Hp):Same H H:=fun _ _ h=>h
theorem Same.trans {H H1 H2:Hp} (a:Same H H1) (b:Same H1 H2):Same H H2:=fun c o h=>b c o (a c o h)
theorem Same.free {H H':Hp} (e:Same H H') {l:Addr} (h:H' l=Option.none):H l=Option.none:=by
 cases q:H l with
 | none=>rfl
 | some o =>
  rw [e l o q] at h
  cases h
theorem Same.seq {K:W.Frag} {H H':Hp} {a:Addr} {xs:List V} (e:Same H H') (h:SqL K H a xs):SqL K H' a xs:=by
 rcases h with (h | ⟨o,h⟩) | h
 ·exact .inl (.inl (e _ _ h))
 ·exact .inl (.inr ⟨o,e _ _ h⟩)
 ·exact .inr h
section
variable {κ : Type} [DecidableEq κ]
theorem zgm:∀ {l:List κ} {k : κ},l.Nodup->¬ k∈l->(l ++ [k]).Nodup
 | [],k,_,_=>by simp
 | a :: r,k,h,hk=>by
  obtain ⟨h1,h2⟩:=List.nodup_cons.mp h
  show (a :: (r ++ [k])).Nodup
  refine List.nodup_cons.mpr ⟨fun m => ?_,zgm h2 fun m=>hk (List.mem_cons.mpr (Or.inr m))⟩
  rcases List.mem_append.mp m with q | q
  ·exact h1 q
  ·exact hk (List.mem_cons.mpr (Or.inl (List.mem_singleton.mp q).symm))
end
theorem zc6 {κ β : Type} [BEq κ] [LawfulBEq κ] {k : κ} {v : β}:∀ {l:List (κ × β)},l.lookup k=some v->(k,v)∈l
 | [],h=>by simp at h
 | (a,b) :: r,h=>by
  rw [List.lookup_cons] at h
  cases e:k == a with
  | true =>
   rw [e] at h
   simp at h
   rw [eq_of_beq e,h]
   exact List.mem_cons_self
  | false =>
   rw [e] at h
   exact List.mem_cons_of_mem _ (zc6 h)
theorem zeA {κ β : Type} [BEq κ] [LawfulBEq κ] {k : κ} {v : β}:∀ {l:List (κ × β)},(k,v)∈l->∃ w,l.lookup k=some w
 | [],h=>by simp at h
 | (a,b) :: r,h=>by
  rw [List.lookup_cons]
  cases e:k == a with
  | true=>exact ⟨b,rfl⟩
  | false =>
   rcases List.mem_cons.mp h with h | h
   ·injection h with h1 h2
    rw [h1] at e
    simp at e
   ·exact zeA h
theorem closure_ok {env:Env} {scope:Scope} (h:∀ x∈scope.names,x.2 = .free->∃ c,env.cells.lookup x.1=some c) :
  ∃ cl,closureFor scope env=pure cl/\(∀ x c,(x,c)∈cl->(x,NameKind.free)∈scope.names/\env.cells.lookup x=some c)/\∀ x,(x,NameKind.free)∈scope.names->∃ c,(x,c)∈cl:=by
 have all:∀ (names:List (Str×NameKind)) (acc:List (Str×Addr)),(∀ x∈names,x.2 = .free->∃ c,env.cells.lookup x.1=some c) ->
   ∃ cl:List (Str×Addr),(forIn names acc fun (x:Str×NameKind) (r:List (Str×Addr))=>(if (x.2 == NameKind.free)=true then do let c <- cellOf env x.1; pure (ForInStep.yield ((x.1,c) :: r)) else pure (ForInStep.yield r):Sem (ForInStep (List (Str×Addr)))))=pure cl /\
    (∀ x c,(x,c)∈cl->(x,c)∈acc\/((x,NameKind.free)∈names/\env.cells.lookup x=some c))/\(∀ p∈acc,p∈cl)/\∀ x,(x,NameKind.free)∈names->∃ c,(x,c)∈cl:=by
  intro names
  induction names with
  | nil=>intro acc _; exact ⟨acc,rfl,fun x c h => .inl h,fun p h=>h,fun x h=>by simp at h⟩
  | cons y r ih =>
   intro acc hy
   obtain ⟨n,k⟩:=y
   by_cases hk:k = .free
   ·subst hk
    obtain ⟨c,hc⟩:=hy (n,.free) List.mem_cons_self rfl
    obtain ⟨cl,e,h1,h2,h3⟩:=ih ((n,c) :: acc) fun x hx=>hy x (List.mem_cons_of_mem _ hx)
    refine ⟨cl,?_,fun x d hd => ?_,fun p hp=>h2 p (List.mem_cons_of_mem _ hp),fun x hx => ?_⟩
    ·rw [List.forIn_cons]
     have hcell:cellOf env n=pure c:=by unfold cellOf; rw [hc]
     simp only [beq_self_eq_true,if_true,hcell,pure_bind]
     exact e
    ·rcases h1 x d hd with q | ⟨q1,q2⟩
     ·rcases List.mem_cons.mp q with q | q
      ·injection q with q1 q2
       subst q1 q2
       exact .inr ⟨List.mem_cons_self,hc⟩
      ·exact .inl q
     ·exact .inr ⟨List.mem_cons_of_mem _ q1,q2⟩
    ·rcases List.mem_cons.mp hx with q | q
     ·injection q with q1 _
      subst q1
      exact ⟨c,h2 _ List.mem_cons_self⟩
     ·exact h3 x q
   ·obtain ⟨cl,e,h1,h2,h3⟩:=ih acc fun x hx=>hy x (List.mem_cons_of_mem _ hx)
    refine ⟨cl,?_,fun x d hd=>(h1 x d hd).imp id fun q=>⟨List.mem_cons_of_mem _ q.1,q.2⟩,h2,fun x hx => ?_⟩
    ·rw [List.forIn_cons]
     have hb:(k == NameKind.free)=false:=by simpa using hk
     simp only [hb,Bool.false_eq_true,if_false,pure_bind]
     exact e
    ·rcases List.mem_cons.mp hx with q | q
     ·injection q with _ q2
      exact absurd q2.symm hk
     ·exact h3 x q
 obtain ⟨cl,e,h1,_,h3⟩:=all scope.names [] h
 refine ⟨cl,?_,fun x c q=>(h1 x c q).resolve_left (by simp),h3⟩
 show ((forIn scope.names ([]:List (Str×Addr)) fun (x:Str×NameKind) (r:List (Str×Addr))=>(if (x.2 == NameKind.free)=true then do let c <- cellOf env x.1; pure (ForInStep.yield ((x.1,c) :: r)) else pure (ForInStep.yield r):Sem (ForInStep (List (Str×Addr))))) >>= fun r=>pure r)=pure cl
 rw [e]
 rfl
theorem zbr {env:Env}:∀ {names:List (Str×NameKind)} {x:Str},names.lookup x=some .free ->
  (names.map fun (n,k)=>if (k == NameKind.free && env.scope.kind == .function && env.kindOf n == some .cell) then (n,NameKind.cell) else (n,k)).lookup x=some .cell \/
  (names.map fun (n,k)=>if (k == NameKind.free && env.scope.kind == .function && env.kindOf n == some .cell) then (n,NameKind.cell) else (n,k)).lookup x=some .free
 | [],_,h=>by simp at h
 | (n,k) :: r,x,h=>by
  have ih := @zbr env r x
  show List.lookup x ((if (k == NameKind.free && env.scope.kind == .function && env.kindOf n == some .cell)=true then (n,NameKind.cell) else (n,k)) :: _)=_\/List.lookup x ((if (k == NameKind.free && env.scope.kind == .function && env.kindOf n == some .cell)=true then (n,NameKind.cell) else (n,k)) :: _)=_
  cases hx:x == n with
  | true =>
   simp only [List.lookup_cons,hx] at h
   cases h
   by_cases hc:(NameKind.free == NameKind.free && env.scope.kind == .function && env.kindOf n == some .cell)=true
   ·rw [if_pos hc]; simp only [List.lookup_cons,hx]; exact .inl trivial
   ·rw [if_neg hc]; simp only [List.lookup_cons,hx]; exact .inr trivial
  | false =>
   simp only [List.lookup_cons,hx] at h
   by_cases hc:(k == NameKind.free && env.scope.kind == .function && env.kindOf n == some .cell)=true
   ·rw [if_pos hc]; simp only [List.lookup_cons,hx]; exact ih h
   ·rw [if_neg hc]; simp only [List.lookup_cons,hx]; exact ih h
noncomputable def cxComp (X:Cx) (scope:Scope) (N:List Str) (cl:List (Str×Addr)) (C:Addr) (s:Shared) (H:Hp) (fp:List Addr) (pn:List (Addr×Obj)):Cx :=
 { X with N:=N,s₀ := s,H₀ := H,env:=compEnvC scope cl C X.env,outer:=X.stack,stack:=X.stack,ex:=fp,fn:=fun _=>false,pn:=pn,xe:=fun _ _=>False }
noncomputable def CapsOk (X:Cx) (scope:Scope):List (Nat×Str)->Prop
 | []=>True
 | p :: r=>(X.N[p.1]?=some p.2/\scope.names.lookup p.2=some .free/\(X.env.scope.names.lookup p.2=some .cell\/X.env.scope.names.lookup p.2=some .free))/\CapsOk X scope r
theorem CapsOk.get {X:Cx} {scope:Scope}:∀ {caps:List (Nat×Str)} {j:Nat} {p:Nat×Str},CapsOk X scope caps->caps[j]?=some p ->
  X.N[p.1]?=some p.2/\scope.names.lookup p.2=some .free/\(X.env.scope.names.lookup p.2=some .cell\/X.env.scope.names.lookup p.2=some .free)
 | [],_,_,_,h=>by simp at h
 | q :: r,0,p,h,e=>by simp at e; subst e; exact h.1
 | q :: r,j + 1,p,h,e=>CapsOk.get h.2 (by simpa using e)
noncomputable def capSt (own:List Str) (caps:List (Nat×Str)) (σ : St):St:=own.map (fun _=>none) ++ caps.map fun p=>(σ[p.1]?).join
noncomputable def CompW (J:It) (D:Addr) (σ0:St) (H1:Hp) (g:TG) (tf:TT) (te:TE) (Q:VK):Prop:=∃ W:Nat->Nat->St->Hp->Prop,
 (∃ m,W 0 m σ0 (upd H1 D (.lst [])))/\∀ i m σ' H',W i m σ' H' ->
  (J.stop i H'/\Q (.ref D) H')\/(J.go i H'/\∀ x H2,J.yld i H' x H2->g x σ' H2 fun σ2 H3=>tf σ2 H3 fun b H4 =>
   if b=true then te σ2 H4 fun v H5=>∃ ys,H5 D=some (.lst ys)/\ys.length < sizeLine/\∃ m',m' < m/\W (i + 1) m' σ2 (upd H5 D (.lst (ys ++ [v])))
   else ∃ m',m' < m/\W (i + 1) m' σ2 H4)
noncomputable def tComp (wi:TI) (own:List Str) (caps:List (Nat×Str)) (g:TG) (tf:TT) (te:TE):TE:=fun σ H Q=>wi σ H fun J H1=>∀ D,H1 D=none->CompW J D (capSt own caps σ) H1 g tf te Q
noncomputable def PTs (X:Cx) (ifs:List Expr) (t:TT):Prop :=
 ∀ (pins:List (Addr×Obj)) (s:Shared) (σ : St) (H:Hp) (Q:Bool->Hp->Prop),Inv X pins σ H s->t σ H Q->wpAny (model X.prog X.w) X.A (forIn ifs true fun c r=>if r=true then do let ok <- isTrue c X.env (eval c X.env); pure (ForInStep.yield ok) else pure (ForInStep.yield r)) (TP X pins σ Q) X.xe s
noncomputable def tTrue:TT:=fun _ H Q=>Q true H
theorem zbi {X:Cx}:PTs X [] tTrue:=fun _ _ _ H _ I h=>wpAny_tests_nil ⟨H,I,h⟩
theorem zcH {X:Cx} {c:Expr} {t:TT} (h:PT X c t):PTs X [c] t:=fun pins s σ H Q I hw=>wpAny_tests_one (h pins s σ H Q I hw)
theorem comp_loop {prog:Program} {w:World} {A:Around} {R:Result->Shared->Prop} {s:Shared} {elt target iter:Expr} {ifs:List Expr} {scope:Scope} {pos:Pos} {it acc:Value} {env:Env} (I:Nat->Shared->Prop)
  (turn:∀ n s,I n s->wpAny (model prog w) A (pyNext it) (fun r s₁ => match r with
   | none=>R (.ok .next) s₁
   | some v=>wpAny (model prog w) A (letOwnedTupleGo target it v) (fun _ s₁'=>wpAny (model prog w) A (assign target env v) (fun _ s₂ =>
     wpAny (model prog w) A (forIn ifs true fun c r=>if r=true then do let ok <- isTrue c env (eval c env); pure (ForInStep.yield ok) else pure (ForInStep.yield r)) (fun ok s₃ =>
      if ok=true then wpAny (model prog w) A (eval elt env) (fun x s₄ =>
       wpAny (model prog w) A (call (.builtin "list.append") [acc,x]) (fun _ s₅ => ∃ m,m < n/\I m s₅) (fun _ _=>False) s₄) (fun _ _=>False) s₃
      else ∃ m,m < n/\I m s₃) (fun _ _=>False) s₂) (fun _ _=>False) s₁') (fun _ _=>False) s₁) (fun _ _=>False) s)
  (n:Nat) (h:I n s) :
  codeAny (model prog w) A (.compLoop (.ListComp elt [⟨target,iter,ifs,0⟩] scope pos) 0 it acc env) R s:=by
 refine codeAny_loop rfl I (fun n s hI => ?_) n h
 show wpAny _ A ((compTurn (.ListComp elt [⟨target,iter,ifs,0⟩] scope pos) 0 it acc env).onRaise (fun x=>do noteFrame x env; theTreesLotGoes x)) _ _ s
 refine wpAny_noted ?_
 rw [compTurn_list]
 refine wpAny_bind (wpAny_standAt (wpAny_bind (wpAny_mono (turn n s hI) (fun r s₁ h₁ => ?_) fun _ _ h'=>h'.elim)))
 cases r with
 | none=>exact wpAny_pure h₁
 | some v =>
  refine wpAny_bind (wpAny_mono h₁ (fun _ s₁' h₁' => ?_) fun _ _ h'=>h'.elim)
  refine wpAny_bind (wpAny_mono h₁' (fun _ s₂ h₂ => wpAny_bind (wpAny_mono h₂ (fun ok s₃ h₃ => ?_) fun _ _ h'=>h'.elim)) fun _ _ h'=>h'.elim)
  cases ok with
  | false=>exact wpAny_pure ⟨rfl,h₃⟩
  | true =>
   exact wpAny_bind (wpAny_bind (wpAny_mono h₃ (fun x s₄ h₄ => wpAny_bind (wpAny_mono h₄ (fun _ s₅ h₅ => wpAny_pure (wpAny_pure ⟨rfl,h₅⟩)) fun _ _ h'=>h'.elim)) fun _ _ h'=>h'.elim))
section
variable {X:Cx} {pins:List (Addr×Obj)} {σ : St}
theorem comp_ok {H2:Hp} {s2:Shared} {fp:List Addr} {scope:Scope} {N:List Str} {cl:List (Str×Addr)} {C:Addr} (I2:Inv X pins σ H2 s2) (f2:∀ b∈fp,FpOk X pins H2 b) (hC:s2.heap.objs.size < C)
  (hfs:∀ b∈fp,b < s2.heap.objs.size) (hkind:scope.kind = .function) (hcl:∀ x c,cl.lookup x=some c->X.env.cells.lookup x=some c)
  (hhas:∀ x,((relabel scope X.env).names.lookup x=some .cell\/(relabel scope X.env).names.lookup x=some .free)->∃ c,cl.lookup x=some c) :
  (cxComp X scope N cl C s2 H2 fp (X.pn ++ pins)).Ok where
 mod:=I2.ok.mod
 kind:=hkind
 glob:=I2.ok.glob
 blt:=I2.ok.blt
 above:=Nat.le_of_lt hC
 inj:=fun x y c h1 h2=>I2.ok.inj x y c (hcl x c h1) (hcl y c h2)
 has:=hhas
 cab:=fun _ _ h _=>by cases h
 hd:=I2.ok.hd
 frames:=I2.ok.frames
 stk := .inl rfl
 exf:=fun b hb=>⟨Nat.ne_of_lt (Nat.lt_trans (hfs b hb) hC),fun x c e=>(f2 b hb).2.2.2.2.1 x c (hcl x c e)⟩
 bs:=I2.bs
 bsz:=Nat.le_trans I2.ok.bsz I2.sz
 noex:=fun b o e hb=>by
  rcases (f2 b hb).2.2.2.1 with z | z
  ·exact I2.ok.noex b o e z
  ·exact absurd (Nat.lt_of_lt_of_le (Heap.lt_size e) (Nat.le_trans I2.ok.bsz z)) (Nat.lt_irrefl _)
 exfs:=fun b hb z=>(List.mem_cons.mp (I2.stkSub b z)).elim (f2 b hb).2.1 (f2 b hb).2.2.1
 funs:=I2.stack
 frf:=I2.stkFree
theorem comp_start {H2:Hp} {s2:Shared} {fp:List Addr} {scope:Scope} {own:List Str} {caps:List (Nat×Str)} {cl:List (Str×Addr)} {D C:Addr} {h1:Heap} {tk:Nat} {m:Str->Option Value}
  (I2:Inv X pins σ H2 s2) (f2:∀ b∈fp,FpOk X pins H2 b) (hC : @Eq Nat C (s2.heap.objs.size + 1)) (hD : @Eq Nat D s2.heap.objs.size)
  (hfs:∀ b∈fp,b < s2.heap.objs.size) (hkind:scope.kind = .function) (hcl:∀ x c,cl.lookup x=some c->X.env.cells.lookup x=some c)
  (hhas:∀ x,((relabel scope X.env).names.lookup x=some .cell\/(relabel scope X.env).names.lookup x=some .free)->∃ c,cl.lookup x=some c)
  (hcap:CapsOk X scope caps) (hns:h1.Ns C m) (old:∀ b o,s2.heap.get? b=some o->h1.get? b=some o) (hlst:∃ n,h1.get? D=some { cls := .type "list",data := .seq #[] n }) :
  Inv (cxComp X scope (own ++ caps.map (·.2)) cl C s2 H2 fp (X.pn ++ pins)) [] (capSt own caps σ) (upd H2 D (.lst [])) { s2 with heap:=h1,toks:=tk }:=by
 have hCs:s2.heap.objs.size < C:=by omega
 have hDn:H2 D=none:=I2.hok.fresh (by omega)
 have hCn:H2 C=none:=I2.hok.fresh (by omega)
 have hCD:C≠D:=by show ¬ @Eq Nat C D; omega
 have hDs:s2.heap.objs.size<=D:=by show @LE.le Nat _ s2.heap.objs.size D; omega
 have new:ObjOk X.prog X.w (upd H2 D (.lst [])) h1 D (.lst []):=let ⟨n,e⟩:=hlst; ⟨Nat.zero_le _,[],n,.nil,e⟩
 refine ⟨comp_ok I2 f2 hCs hfs hkind hcl hhas,rfl,I2.bare,Un.laid old hDs hDn,⟨m,hns,fun i x v e1 e2 e3 => ?_⟩,fun x c e => ?_,?_,fun x c e => ?_,fun p hp => ?_,I2.hok.laid old hDs new,?_⟩
 ·-- a captured name
  have e2':(capSt own caps σ)[i]?=some (some v):=e2
  unfold capSt at e2'
  by_cases hi:i < own.length
  ·rw [List.getElem?_append_left (by simpa using hi),List.getElem?_map] at e2'
   cases q:own[i]? with
   | none=>rw [q] at e2'; cases e2'
   | some y=>rw [q] at e2'; cases e2'
  ·have hle:own.length<=i:=Nat.le_of_not_lt hi
   rw [List.getElem?_append_right (by simpa using hle),List.getElem?_map,List.length_map] at e2'
   have e1':(own ++ caps.map (·.2))[i]?=some x:=e1
   rw [List.getElem?_append_right hle,List.getElem?_map] at e1'
   cases q:caps[i - own.length]? with
   | none=>rw [q] at e2'; cases e2'
   | some p =>
    rw [q] at e2' e1'
    have ex:p.2=x:=Option.some.inj e1'
    have ev:(σ[p.1]?).join=some v:=Option.some.inj e2'
    obtain ⟨hN,hf,hv⟩:=hcap.get q
    have hσ : σ[p.1]?=some (some v):=by
     cases r : σ[p.1]? with
     | none=>rw [r] at ev; cases ev
     | some y=>rw [r] at ev; rw [show y=some v from ev]
    obtain ⟨mX,_,hl⟩:=I2.loc
    obtain ⟨u,ru,lk⟩:=hl p.1 p.2 v hN hσ (.inr hv)
    subst ex
    refine ⟨u,ru,.inr ⟨zbr hf,?_⟩⟩
    rcases lk with ⟨k,_⟩ | ⟨_,c,e,z⟩
    ·have k':X.env.scope.names.lookup p.2=some .local:=k
     rw [k'] at hv
     rcases hv with z | z <;> cases z
    ·obtain ⟨c',e'⟩:=hhas p.2 (zbr hf)
     have e2:=hcl p.2 c' e'
     rw [e] at e2
     cases e2
     obtain ⟨o,ho,hd⟩:=z
     exact ⟨c,e',o,old c o ho,hd⟩
 ·obtain ⟨v,o,ho,hd⟩:=I2.cell x c (hcl x c e)
  exact ⟨v,o,old c o ho,hd⟩
 ·show upd H2 D (.lst []) C=none
  rw [zah hCD]; exact hCn
 ·obtain ⟨v,q⟩:=I2.cell x c (hcl x c e)
  rw [zah (Nat.ne_of_lt (Nat.lt_of_lt_of_le q.lt hDs))]
  exact I2.freeC x c (hcl x c e)
 ·have hp':p∈X.pn ++ pins:=by
   have hp2:p∈(X.pn ++ pins) ++ []:=hp
   rwa [List.append_nil] at hp2
  obtain ⟨e,n,ne,nf,d⟩:=I2.pin p hp'
  have lt:=Heap.lt_size e
  refine ⟨old p.1 p.2 e,by rw [zah (Nat.ne_of_lt (Nat.lt_of_lt_of_le lt hDs))]; exact n,?_,fun z=>(List.mem_cons.mp (I2.stkSub p.1 z)).elim ne nf,d⟩
  exact Nat.ne_of_lt (Nat.lt_trans lt hCs)
 ·show (capSt own caps σ).length=(own ++ caps.map (·.2)).length
  unfold capSt
  simp
theorem comp_back {H2 H':Hp} {s2 s':Shared} {fp:List Addr} {scope:Scope} {N:List Str} {cl:List (Str×Addr)} {C:Addr} {σ':St} {pn:List (Addr×Obj)} (I2:Inv X pins σ H2 s2) (f2:∀ b∈fp,FpOk X pins H2 b)
  (J:Inv (cxComp X scope N cl C s2 H2 fp pn) [] σ' H' s'):Inv X pins σ H' s' :=
 I2.call' (s':=s') (ch:=fp) J.os J.base J.hok J.bare fun b hb=>⟨(f2 b hb).2.2.2.1,(f2 b hb).2.1,(f2 b hb).2.2.2.2.1,(f2 b hb).2.2.2.2.2⟩
theorem Inv.gone {H:Hp} {s:Shared} {C:Addr} {h':Heap} (I:Inv X pins σ H s) (hs:Heap.SameBut C s.heap h') (hn:H C=none) (h0:X.s₀.heap.objs.size<=C) (hL:C≠X.env.locals) (h2:∀ x c,X.env.cells.lookup x=some c->c≠C) (h3:∀ p∈X.pn ++ pins,p.1≠C) :
  Inv X pins σ H { s with heap:=h' }:=I.turned (t':=s.toks) (fun b o hb e=>(hs.2 b hb).trans e) hn hL (.inr h0) h2 h3
end
theorem free_of_relabel {env:Env} {scope:Scope} {x:Str} (hcell:∀ y∈scope.names,y.2 ≠ .cell) (h:(relabel scope env).names.lookup x=some .cell\/(relabel scope env).names.lookup x=some .free):(x,NameKind.free)∈scope.names:=by
 have all:∀ k,(relabel scope env).names.lookup x=some k->(k = .cell\/k = .free)->(x,NameKind.free)∈scope.names:=by
  intro k e hk
  have m:=zc6 e
  obtain ⟨⟨n,j⟩,hm,q⟩:=List.mem_map.mp (show (x,k)∈scope.names.map _ from m)
  dsimp only at q
  by_cases c:(j == NameKind.free && env.scope.kind == .function && env.kindOf n == some .cell)=true
  ·rw [if_pos c] at q
   injection q with q1 q2
   subst q1
   have jf:j = .free:=by
    simp only [Bool.and_eq_true] at c
    exact eq_of_beq c.1.1
   rw [<- jf]; exact hm
  ·rw [if_neg c] at q
   injection q with q1 q2
   subst q1 q2
   rcases hk with z | z
   ·exact absurd z (hcell _ hm)
   ·rw [z] at hm; exact hm
 rcases h with h | h
 ·exact all _ h (.inl rfl)
 ·exact all _ h (.inr rfl)
structure Steps (Y:Cx) (tg:Expr) (J:It) (fp:List Addr) (it:Addr) (tn:Nat->Heap->Prop):Prop where
 item:∀ (i:Nat) (pins:List (Addr×Obj)) (s:Shared) (σ : St) (H:Hp) (E:Value->Shared->Prop),Inv Y pins σ H s->(∀ b∈fp,FpOk Y pins H b)->tn i s.heap->J.go i H ->
  wpAny (model Y.prog Y.w) Y.A (pyNext (.ref it)) (fun r s1=>∃ u,r=some u /\
   wpAny (model Y.prog Y.w) Y.A (letOwnedTupleGo tg (.ref it) u) (fun _ s2=>∃ x H',Inv Y pins σ H' s2/\RelV x u/\J.yld i H x H'/\tn (i + 1) s2.heap/\∀ b∈fp,H' b=none) E s1) E s
 done:∀ (i:Nat) (pins:List (Addr×Obj)) (s:Shared) (σ : St) (H:Hp) (E:Value->Shared->Prop),Inv Y pins σ H s->(∀ b∈fp,FpOk Y pins H b)->tn i s.heap->J.stop i H ->
  wpAny (model Y.prog Y.w) Y.A (pyNext (.ref it)) (fun r s1=>r=none/\Inv Y pins σ H s1) E s
structure Trn (P:Program) (w:World) (K:W.Frag) (Z:Cx->Prop) (tg:Expr) (J:It) (fp:List Addr) (it:Addr) (tn:Nat->Heap->Prop):Prop where
 obj:∀ i h,tn i h->∀ b∈fp,∃ o,h.get? b=some o/\∀ v,o.data ≠ .cell v
 keep:∀ i h h',tn i h->(∀ b∈fp,∀ o,h.get? b=some o->h'.get? b=some o)->tn i h'
 steps:∀ Y:Cx,Y.prog=P->Y.w=w->Y.K=K->Z Y->Steps Y tg J fp it tn
 self:∀ (A:Around) (i:Nat) (s:Shared) (Q:Value->Shared->Prop) (E:Value->Shared->Prop),tn i s.heap->Q (.ref it) s->wpAny (model P w) A (pyIter (.ref it)) Q E s
noncomputable def PIEq (Z:Cx->Prop) (X:Cx) (pins:List (Addr×Obj)) (σ : St) (tg:Expr) (R:It->Hp->Prop) (itv:Value) (s2:Shared):Prop :=
 ∃ (it:Addr) (fp:List Addr) (tn:Nat->Heap->Prop) (J:It) (H':Hp),itv = .ref it/\Inv X pins σ H' s2/\Trn X.prog X.w X.K Z tg J fp it tn/\tn 0 s2.heap/\(∀ b∈fp,FpOk X pins H' b)/\R J H'
noncomputable def PIq (Z:Cx->Prop) (X:Cx) (tg iter:Expr) (wi:TI):Prop :=
 ∀ (pins:List (Addr×Obj)) (s:Shared) (σ : St) (H:Hp) (R:It->Hp->Prop),Inv X pins σ H s->wi σ H R ->
  wpAny (model X.prog X.w) X.A (eval iter X.env) (fun v s1=>wpAny (model X.prog X.w) X.A (pyIter v) (PIEq Z X pins σ tg R) X.xe s1) X.xe s
theorem PI.q {X:Cx} {tg iter:Expr} {wi:TI} (h:PI X tg iter wi):PIq (fun Y=>Y.calm=true) X tg iter wi:=fun pins s σ H R I q =>
 thn (h pins s σ H R I q) fun v s1 h1=>thn h1 fun itv s2 h2=>by
  obtain ⟨it,fp,tn,J,H',e,I',T,t0,f,r⟩:=h2
  exact ⟨it,fp,tn,J,H',e,I',⟨T.obj,T.keep,fun Y hP hw hK hz=>⟨fun i pins s σ H E=>hP ▸ hw ▸ T.item Y hP hw hK hz i pins s σ H E,fun i pins s σ H E=>hP ▸ hw ▸ T.done Y hP hw hK hz i pins s σ H E⟩,T.self⟩,t0,f,r⟩
section
variable {X:Cx} {elt target iter:Expr} {ifs:List Expr} {scope:Scope} {pos:Pos} {own:List Str} {caps:List (Nat×Str)} {wi:TI} {g:TG} {tf:TT} {te:TE}
structure CompScope (X:Cx) (scope:Scope) (caps:List (Nat×Str)):Prop where
 kind:scope.kind = .function
 cell:(scope.names.all fun y => !(y.2 == .cell))=true
 names:(scope.names.all fun y => !(y.2 == .local) || scope.names.lookup y.1 == some .local)=true
 free:(scope.names.all fun y => !(y.2 == .free) || (X.env.scope.names.lookup y.1 == some .cell || X.env.scope.names.lookup y.1 == some .free))=true
 caps:CapsOk X scope caps
theorem zdf {use:Option (Value->Sem Unit)} {R:Value->Shared->Prop} {pins:List (Addr×Obj)} {σ : St} {s:Shared} {H:Hp} {Q:VK} (Z:Cx->Prop) (hc:∀ cl C s H fp pins,Z (cxComp X scope (own ++ caps.map (·.2)) cl C s H fp (X.pn ++ pins))) (S:CompScope X scope caps) (hi:PIq Z X target iter wi)
  (hg:∀ cl C s H fp pn,PG (cxComp X scope (own ++ caps.map (·.2)) cl C s H fp pn) target g)
  (ht:∀ cl C s H fp pn,PTs (cxComp X scope (own ++ caps.map (·.2)) cl C s H fp pn) ifs tf)
  (he:∀ cl C s H fp pn,PE (cxComp X scope (own ++ caps.map (·.2)) cl C s H fp pn) elt te)
  (I:Inv X pins σ H s) (h:tComp wi own caps g tf te σ H Q)
  (fin:∀ D C H' s' m,Inv X pins σ H' s'->s'.heap.Ns C m->H' C=none->X.s₀.heap.objs.size<=C->C≠X.env.locals->(∀ x c,X.env.cells.lookup x=some c->c≠C)->(∀ p∈X.pn ++ pins,p.1≠C)->Q (.ref D) H' ->
   compPost (model X.prog X.w) X.A X.xe use R (.ref D) C (.ok .next) s')
  (hs:∀ x,foldedSetIterable iter X.env x=pure x) :
  wpAny (model X.prog X.w) X.A (comprehension (.ListComp elt [⟨target,iter,ifs,0⟩] scope pos) scope X.env (firstIterPos [⟨target,iter,ifs,0⟩] pos) (newList []) false (eval iter X.env) use) R X.xe s:=by
 have hcell:∀ y∈scope.names,y.2 ≠ .cell:=fun y hy z=>by
  have:=List.all_eq_true.mp S.cell y hy
  rw [z] at this; cases this
 have hnames:∀ y∈scope.names,y.2 = .local->scope.names.lookup y.1=some .local:=fun y hy z=>by
  have:=List.all_eq_true.mp S.names y hy
  rw [z] at this
  simpa using this
 have hfree:∀ y∈scope.names,y.2 = .free->X.env.scope.names.lookup y.1=some .cell\/X.env.scope.names.lookup y.1=some .free:=fun y hy z=>by
  have:=List.all_eq_true.mp S.free y hy
  rw [z] at this
  simpa using this
 obtain ⟨cl,hclos,hcl0,hcl1⟩:=closure_ok (env:=X.env) (scope:=scope) fun y hy z=>I.ok.has y.1 (hfree y hy z)
 have hcl:∀ x c,cl.lookup x=some c->X.env.cells.lookup x=some c:=fun x c e=>(hcl0 x c (zc6 e)).2
 have hhas:∀ x,((relabel scope X.env).names.lookup x=some .cell\/(relabel scope X.env).names.lookup x=some .free)->∃ c,cl.lookup x=some c:=fun x hx=>by
  obtain ⟨c,hm⟩:=hcl1 x (free_of_relabel hcell hx)
  exact zeA hm
 refine wpAny_comprehension_free (g:=⟨target,iter,ifs,0⟩) (gs := []) rfl hs hclos S.kind hnames (thn (hi pins s σ H _ I h) fun v s1 h1=>thn h1 fun itv s2 h2 => ?_)
 obtain ⟨it,fp,tn,J,H2,e,I2,T,st2,f2,cont⟩:=h2
 subst e
 obtain ⟨W,⟨m0,w0⟩,turn⟩:=cont s2.heap.objs.size (I2.hok.fresh (Nat.le_refl _))
 refine wpAny_newObj_type (wpAny_newFunctionEnv hcell (by intro y hy; simp at hy) (fun h₁ hns₁ hsb₁ => ?_) S.kind)
 dsimp only at hns₁ hsb₁ ⊢
 generalize hH2:s2.heap.push { cls := .type "list",dict:=none,data := .seq ([]:List Value).toArray }=HL at hns₁ hsb₁ ⊢
 have hC:HL.objs.size=s2.heap.objs.size + 1:=by rw [<- hH2,Heap.size_push]
 have hfs:∀ b∈fp,b < s2.heap.objs.size:=fun b hb=>let ⟨_,e,_⟩:=T.obj 0 _ st2 b hb; Heap.lt_size e
 have old:∀ b o,s2.heap.get? b=some o->h₁.get? b=some o:=fun b o e =>
  hsb₁.extBut b o (by rw [hC]; exact Nat.ne_of_lt (Nat.lt_succ_of_lt (Heap.lt_size e))) (Heap.get?_push_of_some _ (hH2 ▸ Heap.get?_push_of_some _ e))
 have hlst:∃ n,h₁.get? s2.heap.objs.size=some { cls := .type "list",data := .seq #[] n }:=⟨_,hsb₁.extBut _ _ (by rw [hC]; exact Nat.ne_of_lt (Nat.lt_succ_self _)) (Heap.get?_push_of_some _ (hH2 ▸ Heap.get?_push_size _ rfl))⟩
 have I4:Inv (cxComp X scope (own ++ caps.map (·.2)) cl HL.objs.size s2 H2 fp (X.pn ++ pins)) [] (capSt own caps σ) (upd H2 s2.heap.objs.size (.lst [])) { s2 with heap:=h₁,toks:=s2.toks + ([]:List (Str×Value)).length } :=
  comp_start I2 f2 hC rfl hfs S.kind hcl hhas S.caps hns₁ old hlst
 have st4:tn 0 h₁ := T.keep 0 _ _ st2 fun b hb o e=>old b o e
 have fr4:∀ b∈fp,upd H2 s2.heap.objs.size (.lst []) b=none:=fun b hb=>by
  rw [zah (Nat.ne_of_lt (hfs b hb))]; exact (f2 b hb).1
 have hCs:s2.heap.objs.size < HL.objs.size:=by rw [hC]; exact Nat.lt_succ_self _
 have loop:codeAny (model X.prog X.w) X.A (.compLoop (.ListComp elt [⟨target,iter,ifs,0⟩] scope pos) 0 (.ref it) (.ref s2.heap.objs.size) (compEnvC scope cl HL.objs.size X.env))
   (compPost (model X.prog X.w) X.A X.xe use R (.ref s2.heap.objs.size) HL.objs.size) { s2 with heap:=h₁,toks:=s2.toks + ([]:List (Str×Value)).length }:=by
  refine comp_loop (fun n s'=>∃ i σ' H',Inv (cxComp X scope (own ++ caps.map (·.2)) cl HL.objs.size s2 H2 fp (X.pn ++ pins)) [] σ' H' s'/\tn i s'.heap/\(∀ b∈fp,H' b=none)/\W i n σ' H') ?_ m0 ⟨0,_,_,I4,st4,fr4,w0⟩
  have U:=T.steps (cxComp X scope (own ++ caps.map (·.2)) cl HL.objs.size s2 H2 fp (X.pn ++ pins)) rfl rfl rfl (hc _ _ _ _ _ _)
  rintro n s3 ⟨i,σ3,H3,I3,st3,fr3,w3⟩
  have stat:∀ {H':Hp},(∀ b∈fp,H' b=none)->∀ b∈fp,FpOk (cxComp X scope (own ++ caps.map (·.2)) cl HL.objs.size s2 H2 fp (X.pn ++ pins)) [] H' b:=fun {H'} hn b hb=>by
   refine ⟨hn b hb,(I3.ok.exf b hb).1,I3.ok.exfs b hb,.inl hb,(I3.ok.exf b hb).2,fun p hp => ?_⟩
   have hp':p∈X.pn ++ pins:=by
    have hp2:p∈(X.pn ++ pins) ++ []:=hp
    rwa [List.append_nil] at hp2
   exact (f2 b hb).2.2.2.2.2 p hp'
  rcases turn i n σ3 H3 w3 with ⟨stop,qn⟩ | ⟨go,step⟩
  ·refine thn (U.done i [] s3 σ3 H3 _ I3 (stat fr3) st3 stop) fun r s4 ⟨hr,I4⟩ => ?_
   subst hr
   obtain ⟨m,hm,_⟩:=I4.loc
   refine fin s2.heap.objs.size HL.objs.size H3 s4 m (comp_back I2 f2 I4) hm I4.free (Nat.le_trans I2.sz (Nat.le_of_lt hCs)) (Nat.ne_of_gt (Nat.lt_trans I2.lt hCs)) (fun x c e z => ?_) (fun p hp z => ?_) qn
   ·obtain ⟨v,q⟩:=I2.cell x c e
    exact absurd (Nat.lt_trans q.lt hCs) (by rw [z]; exact Nat.lt_irrefl _)
   ·exact absurd (Nat.lt_trans (Heap.lt_size (I2.pin p hp).1) hCs) (by rw [z]; exact Nat.lt_irrefl _)
  ·refine thn (U.item i [] s3 σ3 H3 _ I3 (stat fr3) st3 go) fun r s4 ⟨u,hr,h4⟩ => ?_
   subst hr
   refine thn h4 fun _ s5 ⟨x,H5,I5,r5,y5,st5,fr5⟩ => ?_
   have I5':=I5.pinned (stat fr5) (T.obj _ _ st5)
   refine thn (hg cl HL.objs.size s2 H2 fp (X.pn ++ pins) _ s5 σ3 H5 x u _ I5' r5 (step x H5 y5)) fun _ s6 ⟨σ6,H6,I6,q6⟩ => ?_
   refine thn (ht cl HL.objs.size s2 H2 fp (X.pn ++ pins) _ s6 σ6 H6 _ I6 q6) fun b s7 ⟨H7,I7,q7⟩ => ?_
   have again:∀ {σ8:St} {H8:Hp} {s8:Shared} {m':Nat},Inv (cxComp X scope (own ++ caps.map (·.2)) cl HL.objs.size s2 H2 fp (X.pn ++ pins)) ([] ++ pinsAt fp s5.heap) σ8 H8 s8->m' < n->W (i + 1) m' σ8 H8 ->
     ∃ m,m < n/\∃ i σ' H',Inv (cxComp X scope (own ++ caps.map (·.2)) cl HL.objs.size s2 H2 fp (X.pn ++ pins)) [] σ' H' s8/\tn i s8.heap/\(∀ b∈fp,H' b=none)/\W i m σ' H':=fun {σ8 H8 s8 m'} I8 hm w8=>by
    refine ⟨m',hm,i + 1,σ8,H8,I8.unpinned,T.keep _ _ _ st5 fun b hb o e=>(I8.pin (b,o) (List.mem_append_right _ (List.mem_append_right _ (zb2 hb e)))).1,fun b hb => ?_,w8⟩
    obtain ⟨o,e,d⟩:=T.obj _ _ st5 b hb
    exact (I8.pin (b,o) (List.mem_append_right _ (List.mem_append_right _ (zb2 hb e)))).2.1
   cases b with
   | false =>
    rw [if_neg Bool.false_ne_true] at q7 ⊢
    obtain ⟨m',hm,w7⟩:=q7
    exact again I7 hm w7
   | true =>
    rw [if_pos rfl] at q7 ⊢
    refine thnE (he cl HL.objs.size s2 H2 fp (X.pn ++ pins) _ s7 σ6 H7 _ I7 q7) fun y s8 v H8 I8 r8 ⟨ys,hy,hz,m',hm,w8⟩ => ?_
    refine thn (zaW _ s8 σ6 H8 (.ref s2.heap.objs.size) [v] (.ref s2.heap.objs.size) [y] (fun _ H9=>H9=upd H8 s2.heap.objs.size (.lst (ys ++ [v]))) I8 rfl (.cons r8 .nil) ⟨_,ys,v,rfl,rfl,hy,hz,rfl⟩) fun z s9 ⟨_,H9,I9,_,e9⟩ => ?_
    subst e9
    exact again I9 hm w8
 exact codeAny_compStart_list loop (T.self _ 0 _ _ _ st4 loop)
theorem za2 (hc:X.calm=true) (S:CompScope X scope caps) (hi:PI X target iter wi)
  (hg:∀ cl C s H fp pn,PG (cxComp X scope (own ++ caps.map (·.2)) cl C s H fp pn) target g)
  (ht:∀ cl C s H fp pn,PTs (cxComp X scope (own ++ caps.map (·.2)) cl C s H fp pn) ifs tf)
  (he:∀ cl C s H fp pn,PE (cxComp X scope (own ++ caps.map (·.2)) cl C s H fp pn) elt te)
  (hs:∀ x,foldedSetIterable iter X.env x=pure x:=by intro _; rfl):PE X (.ListComp elt [⟨target,iter,ifs,0⟩] scope pos) (tComp wi own caps g tf te):=by
 intro pins s σ H Q I h
 rw [eval_ListComp]
 refine zdf (Q:=Q) (fun Y=>Y.calm=true) (fun _ _ _ _ _ _=>hc) S hi.q hg ht he I h (fun D C H' s' m I' hm hn h0 hL h2 h3 q => ?_) hs
 exact ⟨m,hm,fun h' hs'=>⟨.ref D,H',I'.gone hs' hn h0 hL h2 h3,rfl,q⟩⟩
theorem pe_compq (Z:Cx->Prop) (hc:∀ cl C s H fp pins,Z (cxComp X scope (own ++ caps.map (·.2)) cl C s H fp (X.pn ++ pins))) (S:CompScope X scope caps) (hi:PIq Z X target iter wi)
  (hg:∀ cl C s H fp pn,PG (cxComp X scope (own ++ caps.map (·.2)) cl C s H fp pn) target g)
  (ht:∀ cl C s H fp pn,PTs (cxComp X scope (own ++ caps.map (·.2)) cl C s H fp pn) ifs tf)
  (he:∀ cl C s H fp pn,PE (cxComp X scope (own ++ caps.map (·.2)) cl C s H fp pn) elt te)
  (hs:∀ x,foldedSetIterable iter X.env x=pure x:=by intro _; rfl):PE X (.ListComp elt [⟨target,iter,ifs,0⟩] scope pos) (tComp wi own caps g tf te):=by
 intro pins s σ H Q I h
 rw [eval_ListComp]
 refine zdf (Q:=Q) Z hc S hi hg ht he I h (fun D C H' s' m I' hm hn h0 hL h2 h3 q => ?_) hs
 exact ⟨m,hm,fun h' hs'=>⟨.ref D,H',I'.gone hs' hn h0 hL h2 h3,rfl,q⟩⟩
theorem zgc {i:Nat} {x:Str} {pos' spos:Pos} (hN:X.N.Nodup) (hn:X.N[i]?=some x) (hx:Loc X.env.scope x) (hc:X.calm=true) (S:CompScope X scope caps) (hi:PI X target iter wi)
  (hg:∀ cl C s H fp pn,PG (cxComp X scope (own ++ caps.map (·.2)) cl C s H fp pn) target g)
  (ht:∀ cl C s H fp pn,PTs (cxComp X scope (own ++ caps.map (·.2)) cl C s H fp pn) ifs tf)
  (he:∀ cl C s H fp pn,PE (cxComp X scope (own ++ caps.map (·.2)) cl C s H fp pn) elt te)
  (hsw:swapsWith (.ListComp elt [⟨target,iter,ifs,0⟩] scope pos) (some (.Name x pos')) spos.line X.env=pure true:=by rfl)
  (hf:X.fn x=true\/X.env.scope.names.lookup x=some .local:=by first | exact .inl rfl | exact .inr rfl | assumption)
  (hs:∀ x,foldedSetIterable iter X.env x=pure x:=by intro _; rfl):PS X (.Assign [.Name x pos'] (.ListComp elt [⟨target,iter,ifs,0⟩] scope pos) spos) (tAsg (tComp wi own caps g tf te) (gName i)):=by
 intro pins s σ H D I h
 rw [exec_Assign_Name_used _ _ _ _ hsw]
 refine wpAny_bind (wpAny_standAt (wpAny_bind ?_))
 show wpAny _ _ (do let _ <- comprehension (.ListComp elt [⟨target,iter,ifs,0⟩] scope pos) scope X.env _ (newList []) false (eval iter X.env) (some (assign (.Name x pos') X.env))) _ _ s
 refine wpAny_bind (wpAny_mono (zdf (use:=some (assign (.Name x pos') X.env)) (R:=fun _ s'=>SP X pins D .next s') (Q:=fun v H1=>gName i v σ H1 D.nx) (fun Y=>Y.calm=true) (fun _ _ _ _ _ _=>hc) S hi.q hg ht he I h (fun Dl C H' s' m I' hm hnC h0 hL h2 h3 q => ?_) hs)
  (fun _ s' hq=>wpAny_pure (wpAny_pure hq)) fun _ _ e=>e)
 show wpAny _ _ (assign (.Name x pos') X.env (.ref Dl)) _ _ s'
 refine wpAny_assign_Name (zep I' hN hn hx (show RelV (.ref Dl) (.ref Dl) from rfl) (fun s'' I'' sb => ?_) hf)
 obtain ⟨a,hsb,ha⟩:=sb
 have hCa:C≠a:=by
  rcases ha with z | z
  ·rw [z]; exact hL
  ·exact Ne.symm (h2 x a z)
 exact ⟨m,hm.sameBut hsb hCa,fun h' hs'=>⟨_,H',I''.gone hs' hnC h0 hL h2 h3,q⟩⟩
end
noncomputable def sgn (c:Nat):V := .str ⟨#[c]⟩
noncomputable def Its (x:Str):It:=⟨fun i _=>i < x.cps.size,fun i H v H'=>H'=H/\∃ c,x.cps[i]?=some c/\v=sgn c,fun i _=>i=x.cps.size⟩
theorem zfh {P:Program} {w:World} {K:W.Frag} {tg:Expr} (it:Addr) (x:Str) (t:Tok) (ty:String)
  (hty : ["enumerate","zip","dict_itemiterator","dict_reverseitemiterator","odict_iterator","itertools.zip_longest","itertools.pairwise"].contains ty=false)
  (W:∀ A:Around,A.handled=none->Walks P w A it [it] [it] x.cps.size (SignAt x) (fun i h=>h.IsStrIter it ty x t i))
  (sf:∀ (A:Around) (i:Nat) (s:Shared) (Q:Value->Shared->Prop) (E:Value->Shared->Prop),s.heap.IsStrIter it ty x t i->Q (.ref it) s->wpAny (model P w) A (pyIter (.ref it)) Q E s) :
  Turn P w K tg (Its x) [it] it (fun i h=>h.IsStrIter it ty x t i) where
 mem:=by simp
 obj:=fun i h st b hb=>by
  have e:b=it:=by simpa using hb
  subst e
  obtain ⟨o,e,c,d⟩:=st
  exact ⟨o,e,fun v z=>by rw [d] at z; cases z⟩
 keep:=fun i h h' st k=>by
  obtain ⟨o,e,r⟩:=st
  exact ⟨o,k it (by simp) o e,r⟩
 item:=by
  intro X hP hw hK hc i pins s σ H E I hf st hg
  subst hP hw hK
  obtain ⟨f0,f1,f2,f3,f4,f5⟩:=hf it (by simp)
  refine (W X.A (I.ok.hd hc)).item i s _ _ hg st fun v h' tk hv st' kk => ?_
  obtain ⟨c,u,hc',rfl⟩:=hv
  have I1:Inv X pins σ H { s with heap:=h',toks:=tk }:=I.turned (fun b o hb e=>kk b o (by simpa using hb) e) f0 f1 f3 f4 f5
  obtain ⟨o,e,cc,d⟩:=id st'
  exact ⟨_,rfl,zgU (s:={ s with heap:=h',toks:=tk }) e cc d hty ⟨sgn c,H,I1,⟨u,rfl⟩,⟨rfl,c,hc',rfl⟩,st',fun b hb=>(hf b hb).1⟩⟩
 done:=by
  intro X hP hw hK hc i pins s σ H E I hf st hg
  subst hP hw hK
  obtain ⟨f0,f1,f2,f3,f4,f5⟩:=hf it (by simp)
  have hi:i=x.cps.size:=hg
  subst hi
  exact (W X.A (I.ok.hd hc)).done s _ _ st fun h' tk kk=>⟨rfl,I.turned (fun b o hb e=>kk b o (by simpa using hb) e) f0 f1 f3 f4 f5⟩
 self:=fun A i s Q E st h=>sf A i s Q E st h
section
variable {X:Cx} {tg:Expr}
noncomputable def iStr (tl:TE):TI:=fun σ H R=>tl σ H fun v H1=>∃ x,v = .str x/\R (Its x) H1
theorem zg0 {l:Expr} {tl:TE} (hl:PE X l tl):PI X tg l (iStr tl):=by
 intro pins s σ H R I h
 refine thnE (hl pins s σ H _ I h) fun v s1 y H1 I1 r1 q1 => ?_
 obtain ⟨x,e,q⟩:=q1
 subst e
 obtain ⟨t,rfl⟩:=r1
 have hf:∀ o:Obj,∀ b ∈ [s1.heap.objs.size],FpOk X pins H1 b:=fun o b hb=>by
  have e:b=s1.heap.objs.size:=by simpa using hb
  subst e
  exact I1.fpOk (Nat.le_refl _) (I1.hok.fresh (Nat.le_refl _))
 cases ha:x.cps.all (· < 128)
 ·exact wpAny_pyIter_wide ha ⟨s1.heap.objs.size,[s1.heap.objs.size],_,_,H1,rfl,I1.kept (t':=s1.toks) fun b o e=>Heap.get?_push_of_some _ e,
   zfh _ x t "str_iterator" (by decide) (fun A hA=>Walks.strWide hA _ x t) (fun A i s Q E st h=>wpAny_pyIter_striter_wide st h),⟨_,Heap.get?_push_size _ rfl,rfl,rfl⟩,hf default,q⟩
 ·exact wpAny_pyIter_ascii ha ⟨s1.heap.objs.size,[s1.heap.objs.size],_,_,H1,rfl,I1.kept (t':=s1.toks) fun b o e=>Heap.get?_push_of_some _ e,
   zfh _ x t "str_ascii_iterator" (by decide) (fun A hA=>Walks.strAscii hA _ x t) (fun A i s Q E st h=>wpAny_pyIter_striter_ascii st h),⟨_,Heap.get?_push_size _ rfl,rfl,rfl⟩,hf default,q⟩
end
structure Gives (J:It) (Ok:Hp->Prop) (L:List V):Prop where
 go:∀ i H,Ok H->i < L.length->J.go i H
 yld:∀ i H x H',Ok H->J.yld i H x H'->i < L.length->H'=H/\L[i]?=some x
 stop:∀ H,Ok H->J.stop L.length H
theorem zaO (lo:Int) (n:Nat):Gives (Itr lo n) (fun _=>True) ((List.range n).map fun i=>V.int (lo + (i:Nat))) where
 go:=fun i H _ h=>by
  have:i < n:=by simpa using h
  exact this
 yld:=fun i H x H' _ y h=>by
  obtain ⟨e,rfl⟩:=y
  have:i < n:=by simpa using h
  exact ⟨e,by simp [this]⟩
 stop:=fun H _=>by
  show n<=_
  simp
theorem zeH (x:Str):Gives (Its x) (fun _=>True) (x.cps.toList.map sgn) where
 go:=fun i H _ h=>by
  have:i < x.cps.size:=by simpa using h
  exact this
 yld:=fun i H v H' _ y h=>by
  obtain ⟨e,c,hc,rfl⟩:=y
  refine ⟨e,?_⟩
  rw [List.getElem?_map]
  simp [hc]
 stop:=fun H _=>by
  show _=x.cps.size
  simp
theorem zak (K:W.Frag) (a:Addr) (xs:List V):Gives (Itl K a) (fun H=>SqL K H a xs) xs where
 go:=fun i H q h=>⟨xs,xs[i],q,by simp [h]⟩
 yld:=fun i H v H' q y h=>⟨y.1,y.2 xs q⟩
 stop:=fun H q=>⟨xs,q,Nat.le_refl _⟩
theorem zbz {J:It} {Ok:Hp->Prop} {L:List V} {g:TG} {tb:TS} {D:Ends} {σ : St} {H:Hp} (G:Gives J Ok L) (Pv:Nat->St->Hp->Prop) (h0:Pv 0 σ H) (hk:∀ i σ H,i<=L.length->Pv i σ H->Ok H)
  (hs:∀ i x σ H,L[i]?=some x->Pv i σ H->g x σ H fun σ2 H2=>tb { D with nx:=Pv (i + 1),ct:=Pv (i + 1),bk:=D.nx } σ2 H2) (hd:∀ σ H,Pv L.length σ H->D.nx σ H) :
  ∃ W:Nat->Nat->St->Hp->Prop,(∃ m,W 0 m σ H)/\∀ i m σ H,W i m σ H ->
   (J.stop i H/\D.nx σ H)\/(J.go i H/\∃ N:St->Hp->Prop,(∀ σ' H',N σ' H'->∃ m',m' < m/\W (i + 1) m' σ' H')/\∀ x H',J.yld i H x H'->g x σ H' fun σ2 H2=>tb { D with nx:=N,ct:=N,bk:=D.nx } σ2 H2):=by
 refine ⟨fun i m σ H=>m=L.length - i/\i<=L.length/\Pv i σ H,⟨L.length,by simp,Nat.zero_le _,h0⟩,?_⟩
 rintro i m σ H ⟨rfl,hi,p⟩
 have q:=hk i σ H hi p
 by_cases hlt:i < L.length
 ·refine .inr ⟨G.go i H q hlt,Pv (i + 1),fun σ' H' p'=>⟨L.length - (i + 1),by omega,rfl,hlt,p'⟩,fun x H' y => ?_⟩
  obtain ⟨e,yy⟩:=G.yld i H x H' q y hlt
  subst e
  exact hs i x σ _ yy p
 ·have e:i=L.length:=by omega
  subst e
  exact .inl ⟨G.stop H q,hd σ H p⟩
noncomputable def CNext (D:Addr) (L:List V) (Pv:Nat->List V->St->Hp->Prop) (i:Nat) (σ2:St) (v:V) (H5:Hp):Prop :=
 ∃ ys,H5 D=some (.lst ys)/\ys.length < sizeLine/\∃ m',m' < L.length - i/\(m'=L.length - (i + 1)/\i + 1<=L.length/\∃ xs,Pv (i + 1) xs σ2 (upd H5 D (.lst (ys ++ [v]))))
noncomputable def CSkip (L:List V) (Pv:Nat->List V->St->Hp->Prop) (i:Nat) (σ2:St) (H4:Hp):Prop :=
 ∃ m',m' < L.length - i/\(m'=L.length - (i + 1)/\i + 1<=L.length/\∃ xs,Pv (i + 1) xs σ2 H4)
theorem CNext.of {D:Addr} {L:List V} {Pv:Nat->List V->St->Hp->Prop} {i:Nat} {σ2:St} {v:V} {H5:Hp} {xs:List V} (hi:i < L.length) (hL:L.length<=sizeLine) (h5:H5 D=some (.lst xs)) (hx:xs.length<=i) (p:Pv (i + 1) (xs ++ [v]) σ2 (upd H5 D (.lst (xs ++ [v])))):CNext D L Pv i σ2 v H5 :=
 ⟨xs,h5,by omega,L.length - (i + 1),by omega,rfl,hi,_,p⟩
theorem CSkip.of {L:List V} {Pv:Nat->List V->St->Hp->Prop} {i:Nat} {σ2:St} {H4:Hp} {xs:List V} (hi:i < L.length) (p:Pv (i + 1) xs σ2 H4):CSkip L Pv i σ2 H4:=⟨L.length - (i + 1),by omega,rfl,hi,_,p⟩
theorem zhh {J:It} {Ok:Hp->Prop} {L:List V} {g:TG} {tf:TT} {te:TE} {D:Addr} {σ0:St} {H1:Hp} {Q:VK} (G:Gives J Ok L) (Pv:Nat->List V->St->Hp->Prop) (h0:Pv 0 [] σ0 (upd H1 D (.lst [])))
  (hk:∀ i xs σ H,i<=L.length->Pv i xs σ H->Ok H)
  (hs:∀ i x xs σ H,i < L.length->L[i]?=some x->Pv i xs σ H->g x σ H fun σ2 H3=>tf σ2 H3 fun b H4=>if b=true then te σ2 H4 fun v H5=>CNext D L Pv i σ2 v H5 else CSkip L Pv i σ2 H4)
  (hd:∀ xs σ H,Pv L.length xs σ H->Q (.ref D) H) :
  CompW J D σ0 H1 g tf te Q:=by
 refine ⟨fun i m σ H=>m=L.length - i/\i<=L.length/\∃ xs,Pv i xs σ H,⟨L.length,by simp,Nat.zero_le _,[],h0⟩,?_⟩
 rintro i m σ H ⟨rfl,hi,xs,p⟩
 have q:=hk i xs σ H hi p
 by_cases hlt:i < L.length
 ·refine .inr ⟨G.go i H q hlt,fun x H' y => ?_⟩
  obtain ⟨e,yy⟩:=G.yld i H x H' q y hlt
  subst e
  exact hs i x xs σ _ hlt yy p
 ·have e:i=L.length:=by omega
  subst e
  exact .inl ⟨G.stop H q,hd xs σ H p⟩
theorem Same.put {H0 H:Hp} {p:Addr} {o:HO} (s:Same H0 H) (n:H0 p=none):Same H0 (upd H p o):=fun b u e=>by
 rw [zah (zaq e n)]
 exact s b u e
theorem Same.new {H:Hp} {p:Addr} {o:HO} (n:H p=none):Same H (upd H p o):=(Same.refl H).put n
theorem zaE {α : Type} {l:List α} {i:Nat} {x : α} (h:l[i]?=some x):l.take (i + 1)=l.take i ++ [x]:=by
 rw [List.take_add_one,h]
 rfl
theorem zcA {J:It} {Ok:Hp->Prop} {L:List V} {tf:TT} {te:TE} {D:Addr} {σ0 capv:St} {H1:Hp} {Q:VK} (hσ : σ0=none :: capv) (G:Gives J Ok L) (hL:L.length<=sizeLine) (hD:H1 D=none) (hOk:∀ H,Same H1 H->Ok H) (p:V->Bool) (F:V->V)
  (ht:∀ x∈L,∀ H R,Same H1 H->(∀ H',Same H H'->R (p x) H')->tf (some x :: capv) H R)
  (he:∀ x∈L,p x=true->∀ H R,Same H1 H->(∀ H',Same H H'->R (F x) H')->te (some x :: capv) H R)
  (hd:∀ H,Same H1 H->H D=some (.lst ((L.filter p).map F))->Q (.ref D) H) :
  CompW J D σ0 H1 (gName 0) tf te Q:=by
 subst hσ
 refine zhh G (fun i xs σ H=>(∃ o,σ = o :: capv)/\Same H1 H/\H D=some (.lst xs)/\xs=((L.take i).filter p).map F) ⟨⟨none,rfl⟩,Same.new hD,zaf,by simp⟩ (fun i xs σ H _ h=>hOk H h.2.1) ?_ ?_
 ·rintro i x xs σ H hi hx ⟨⟨o,rfl⟩,s,e,exs⟩
  have hm:x∈L:=List.mem_of_getElem? hx
  have hxl:xs.length<=i:=by
   rw [exs,List.length_map]
   exact Nat.le_trans (List.length_filter_le _ _) (by rw [List.length_take]; omega)
  show tf (some x :: capv) H _
  refine ht x hm H _ s fun H' s' => ?_
  cases hp:p x with
  | true =>
   rw [if_pos rfl]
   refine he x hm hp H' _ (s.trans s') fun H'' s'' => ?_
   have e'':H'' D=some (.lst xs):=s'' _ _ (s' _ _ e)
   refine CNext.of hi hL e'' hxl ⟨⟨some x,rfl⟩,((s.trans s').trans s'').put hD,zaf,?_⟩
   rw [zaE hx,List.filter_append,List.map_append,exs]
   simp [hp]
  | false =>
   rw [if_neg Bool.false_ne_true]
   refine CSkip.of hi ⟨⟨some x,rfl⟩,s.trans s',s' _ _ e,?_⟩
   rw [zaE hx,List.filter_append,List.map_append,exs]
   simp [hp]
 ·rintro xs σ H ⟨_,s,e,exs⟩
  refine hd H s ?_
  rw [e,exs,List.take_length]
theorem zem {P:Program} {w:World} {A:Around} {E:Value->Shared->Prop} {s:Shared} {a:Addr} {its:List Value} {Q:Value->Shared->Prop} (hh:A.handled=none) (hl:s.heap.IsList a its.toArray)
  (h:∀ (I:Addr) (s2:Shared),s2={ s with heap:=s.heap.push { cls := .type "list_iterator",data := .fields #[.ref a,.int 0 0] } }->I=s.heap.objs.size ->
   Walks P w A I [I,a] [I] its.length (fun i v=>its[i]?=some v) (fun i h=>h.IsListIter I a i/\h.IsList a its.toArray)->(s2.heap.IsListIter I a 0/\s2.heap.IsList a its.toArray)->(∀ b ∈ [I,a],b < s2.heap.objs.size) ->
   (∀ h':Heap,(∀ b o,b ∉ [I]->s2.heap.get? b=some o->h'.get? b=some o)->∀ b o,s.heap.get? b=some o->h'.get? b=some o)->Q (.ref I) s2) :
  wpAny (model P w) A (pyIter (.ref a)) Q E s:=by
 have hlt:a < s.heap.objs.size:=by obtain ⟨_,e,_⟩:=hl; exact Heap.lt_size e
 refine wpAny_pyIter_list hl (h _ _ rfl rfl ?_ ⟨⟨_,Heap.get?_push_size _ rfl,rfl,rfl⟩,hl.push _⟩ (fun b hb => ?_) (fun h' k b o e=>k b o ?_ (Heap.get?_push_of_some _ e)))
 ·have W:=Walks.list (prog:=P) (w:=w) (A:=A) hh s.heap.objs.size a (Nat.ne_of_lt hlt) its.toArray
  simpa using W
 ·show b < (s.heap.push _).objs.size
  rw [Heap.size_push]
  rcases List.mem_cons.mp hb with rfl | hb
  ·exact Nat.lt_succ_self _
  ·have e:b=a:=by simpa using hb
   subst e
   exact Nat.lt_succ_of_lt hlt
 ·intro z
  have e2:b=s.heap.objs.size:=by simpa using z
  subst e2
  exact absurd (Heap.lt_size e) (Nat.lt_irrefl _)
theorem zff {xs:List V} {us:List Value} (r:Vals xs us) {i:Nat} {u:Value} (h:us[i]?=some u):∃ x,xs[i]?=some x/\RelV x u:=by
 have hi:i < xs.length:=by rw [r.length]; exact (List.getElem?_eq_some_iff.mp h).1
 obtain ⟨u',hu,ru⟩:=r.get (x:=xs[i]) (i:=i) (by simp [hi])
 rw [h] at hu
 cases hu
 exact ⟨_,by simp [hi],ru⟩
theorem range_all_map (bs:List Bool):(List.range bs.length).all (fun i=>bs.getD i false)=bs.all id:=by
 rw [Bool.eq_iff_iff,List.all_eq_true,List.all_eq_true]
 constructor
 ·intro h x hx
  obtain ⟨i,hi,e⟩:=List.mem_iff_getElem.mp hx
  have:=h i (List.mem_range.mpr hi)
  simp only [List.getD_eq_getElem?_getD,hi,getElem?_pos,Option.getD_some,e] at this
  exact this
 ·intro h i hi
  have hi':=List.mem_range.mp hi
  simp only [List.getD_eq_getElem?_getD,hi',getElem?_pos,Option.getD_some]
  exact h _ (List.getElem_mem hi')
section
variable {X:Cx}
theorem truth_bl {P:Program} {w:World} {A:Around} {bs:List Bool} {its:List Value} (r:Vals (bs.map V.bl) its):TruthOf P w A (fun i v=>its[i]?=some v) (fun i=>bs.getD i false):=by
 intro i v s Q E hv q
 obtain ⟨x,hx,rx⟩:=zff r hv
 rw [List.getElem?_map] at hx
 cases e:bs[i]? with
 | none=>rw [e] at hx; cases hx
 | some b =>
  rw [e] at hx
  cases hx
  cases (show v=Value.bool b from rx)
  refine wpAny_truthy_bool ?_
  have eb:bs.getD i false=b:=by rw [List.getD_eq_getElem?_getD,e]; rfl
  rw [<- eb]
  exact q
theorem zfQ (hc:X.calm=true):CallR X (.builtin "all") (fun xs H Q=>∃ (a:Addr) (bs:List Bool),xs = [V.ref a]/\SqL X.K H a (bs.map V.bl)/\Q (.bl (bs.all id)) H):=by
 intro pins s σ H xs us Q I r h
 obtain ⟨a,bs,rfl,hq,q⟩:=h
 obtain ⟨u,rfl,ru⟩:=zcS r
 cases ru
 obtain ⟨its,rv,p,hz⟩:=I.list hq
 refine call_all_walk (zem (A:=X.A.in1) (I.ok.hd hc) p.isList fun It s2 e2 eI W st hf old => ?_)
 have hl:bs.length=its.length:=by have:=rv.length; rwa [List.length_map] at this
 refine ⟨It,_,_,its.length,_,_,_,rfl,W,st,truth_bl rv,fun h' tk k => ?_⟩
 subst e2
 rw [<- hl,range_all_map]
 exact ⟨.bl _,H,I.kept (t':=tk) (old h' k),rfl,q⟩
theorem zec:∀ {ns:List Int} {its:List Value},Vals (ns.map V.int) its->IntsAre its ns
 | [],_,r=>by rw [List.map_nil] at r; cases r; exact .nil
 | n :: ns,_,r=>by
  rw [List.map_cons] at r
  cases r with
  | cons h t =>
   obtain ⟨tk,e⟩:=(show ∃ t,_=Value.int n t from h)
   subst e
   exact .cons n tk (zec t)
theorem ints_get {ns:List Int} {its:List Value} (r:Vals (ns.map V.int) its) {i:Nat} {v:Value} (h:its[i]?=some v):∃ t,v = .int (ns.getD i 0) t:=by
 obtain ⟨x,hx,rx⟩:=zff r h
 rw [List.getElem?_map] at hx
 cases e:ns[i]? with
 | none=>rw [e] at hx; cases hx
 | some n =>
  rw [e] at hx
  cases hx
  have en:ns.getD i 0=n:=by rw [List.getD_eq_getElem?_getD,e]; rfl
  rw [en]
  exact rx
theorem zdE (ns:List Int):∀ k,k<=ns.length->preSum (fun i=>ns.getD i 0) k=(ns.take k).sum
 | 0,_=>rfl
 | k + 1,h=>by
  have hk:k < ns.length:=by omega
  rw [preSum,zdE ns k (by omega),zaE (x:=ns[k]) (by simp [hk]),List.sum_append]
  simp [List.getD_eq_getElem?_getD,hk]
theorem zeP (hc:X.calm=true):CallR X (.builtin "sum") (fun xs H Q=>∃ (a:Addr) (ns:List Int),xs = [V.ref a]/\SqL X.K H a (ns.map V.int)/\Q (.int ns.sum) H):=by
 intro pins s σ H xs us Q I r h
 obtain ⟨a,ns,rfl,hq,q⟩:=h
 obtain ⟨u,rfl,ru⟩:=zcS r
 cases ru
 obtain ⟨its,rv,p,hz⟩:=I.list hq
 have hl:ns.length=its.length:=by have:=rv.length; rwa [List.length_map] at this
 refine call_sum_walkG (zem (A:=X.A.in1) (I.ok.hd hc) p.isList fun It s2 e2 eI W st hf old => ?_)
 refine ⟨It,_,_,its.length,_,_,(fun i=>ns.getD i 0),rfl,W,st,hf,(fun _ _=>ints_get rv),fun h' tk t' k => ?_⟩
 subst e2
 refine ⟨.int _,H,I.kept (t':=tk) (old h' k),⟨t',rfl⟩,?_⟩
 rw [<- hl,zdE ns _ (Nat.le_refl _),List.take_length]
 exact q
noncomputable def many (ns:List Int):Nat:=(firstMet (fun i=>ns.getD i 0) ns.length).length
theorem call_set1 (hc:X.calm=true):CallR X (.type "set") (fun xs H Q=>∃ (a:Addr) (ns:List Int),xs = [V.ref a]/\SqL X.K H a (ns.map V.int)/\ns.length + 1 < scanBound/\∀ p,H p=none->Q (.ref p) (upd H p (.set (fun k=>(firstMet (fun i=>ns.getD i 0) ns.length).any (· == k)) (many ns)))):=by
 intro pins s σ H xs us Q I r h
 obtain ⟨a,ns,rfl,hq,hb,q⟩:=h
 obtain ⟨u,rfl,ru⟩:=zcS r
 cases ru
 obtain ⟨its,rv,p,hz⟩:=I.list hq
 have hl:ns.length=its.length:=by have:=rv.length; rwa [List.length_map] at this
 have hsz:its.toArray.size=ns.length:=by rw [List.size_toArray,hl]
 refine call_set_list (items:=its.toArray) (ns:=ns) (I.ok.hd hc) p.isList (by simpa using zec rv) (by rw [hsz]; exact hb) fun h' tk hS k => ?_
 rw [hsz] at hS
 have I':Inv X pins σ (upd H s.heap.objs.size (.set (fun k=>(firstMet (fun i=>ns.getD i 0) ns.length).any (· == k)) (many ns))) { s with heap:=h',toks:=tk } :=
  I.laid (fun b o e=>k b o (Heap.lt_size e) e) (Nat.le_refl _) hS
 exact ⟨.ref _,_,I',rfl,q _ (I.hok.fresh (Nat.le_refl _))⟩
theorem call_lenS:CallR X (.builtin "len") (fun xs H Q=>∃ a S n,xs = [V.ref a]/\H a=some (.set S n)/\Q (.int n) H):=by
 intro pins s σ H xs us Q I r h
 obtain ⟨a,S,n,rfl,hq,q⟩:=h
 obtain ⟨u,rfl,ru⟩:=zcS r
 cases ru
 obtain ⟨o,es,ep,t,h1,h2,h3,h4,h5,h6,h7,h8⟩:=(show s.heap.SetOf (intKind X.prog X.w) a S n from I.hok a _ hq)
 have hfit:(es.size:Int) < 2 ^ 63:=by
  have:(es.size:Int) < 4096:=by unfold scanBound at h6; omega
  exact Int.lt_of_lt_of_le this (by decide)
 exact call_len_set h1 h2 h3 h7 hfit ⟨.int n,H,I.tok _,⟨_,by rw [h8]⟩,q⟩
theorem zex:OpR X (compareOp .LtE) (fun x y H Q=>∃ i j,x = .str i/\y = .str j/\Q (.bl (!decide (j.cps.toList < i.cps.toList))) H):=by
 intro pins s σ H x y v u Q I rx ry h
 obtain ⟨i,j,rfl,rfl,q⟩:=h
 obtain ⟨t,rfl⟩:=rx
 obtain ⟨t',rfl⟩:=ry
 exact PySem.P.le_str (zaG I q rfl)
theorem call_isi {c:Value} {cv:V} (hcv:RelV cv c) (huniq:∀ u,RelV cv u->u=c):CallR X (.builtin "isinstance") (fun xs H Q=>∃ x t b,xs = [x,cv]/\TyOf X.K H x t/\PySem.W.kitOne X.K t c=some b/\Q (.bl b) H):=by
 intro pins s σ H xs us Q I r h
 obtain ⟨x,t,b,rfl,ty,e,q⟩:=h
 obtain ⟨u,u',rfl,ru,ru'⟩:=zht r
 have:=huniq u' ru'
 subst this
 exact isinst_ok I ru ty e fun tk=>⟨.bl b,H,I.tok _,rfl,q⟩
theorem zbx (T:String):CallR X (.builtin "isinstance") (fun xs H Q=>∃ x t b,xs = [x,.ty T]/\TyOf X.K H x t/\PySem.W.kitOne X.K t (.type T)=some b/\Q (.bl b) H):=call_isi (c := .type T) (cv := .ty T) rfl fun _ h=>h
end
section
variable {X:Cx}
noncomputable def tCut (t u:TS):TS:=fun D σ H=>∃ M:St->Hp->Prop,t { D with nx:=M } σ H/\∀ σ' H',M σ' H'->u D σ' H'
theorem zcb {st:Stmt} {rest:List Stmt} {t u:TS} (h1:PS X st t) (h2:PSs X rest u):PSs X (st :: rest) (tCut t u):=by
 intro pins s σ H D I h
 obtain ⟨M,h,hM⟩:=h
 refine wpAny_execs_cons (thn (h1 pins s σ H { D with nx:=M } I h) fun f s1 q => ?_)
 cases f with
 | next =>
  obtain ⟨σ',H',I',q⟩:=q
  exact h2 pins s1 σ' H' D I' (hM σ' H' q)
 | ret v=>exact q
 | brk=>exact q
 | cont=>exact q
theorem zaT {scope:Scope} {N:List Str} {cl:List (Str×Addr)} {C:Addr} {s:Shared} {H:Hp} {fp:List Addr} {pn:List (Addr×Obj)} (h:N.Nodup):(cxComp X scope N cl C s H fp pn).N.Nodup:=h
theorem zbG {x:Str} {i:Int} {pos:Pos} (hg:Gl X x) (hm:∃ t,X.mg x=some (.int i t)) (hd:(x == ("__debug__" : Str))=false:=by decide):PE X (.Name x pos) (tC (.int i)):=by
 obtain ⟨t,hm⟩:=hm
 exact zgh hg hm ⟨t,rfl⟩ hd
end
theorem ln1 {P:List Value->Prop} {p:Str} (h:∀ a,P [a]):∀ us:List Value,us.length = [p].length->P us
 | [a],_=>h a
theorem ln2 {P:List Value->Prop} {p q:Str} (h:∀ a b,P [a,b]):∀ us:List Value,us.length = [p,q].length->P us
 | [a,b],_=>h a b
theorem ln3 {P:List Value->Prop} {p q r:Str} (h:∀ a b c,P [a,b,c]):∀ us:List Value,us.length = [p,q,r].length->P us
 | [a,b,c],_=>h a b c
theorem ln4 {P:List Value->Prop} {p q r s:Str} (h:∀ a b c d,P [a,b,c,d]):∀ us:List Value,us.length = [p,q,r,s].length->P us
 | [a,b,c,d],_=>h a b c d
theorem ln5 {P:List Value->Prop} {p q r s t:Str} (h:∀ a b c d e,P [a,b,c,d,e]):∀ us:List Value,us.length = [p,q,r,s,t].length->P us
 | [a,b,c,d,e],_=>h a b c d e
structure Callee (P:Program) (w:World) (K:W.Frag) (mg:Str->Option Value) (base:Heap) (x:Str) (k:Nat) (ps:List Str) (sp:Sp):Prop where
 ex:∃ f fd,FnOk P w K mg base CX0 k f fd ps sp/\mg x=some (.ref f)/\PySem.W.keepIn K (.ref f)=true/\Binds K fd ps []/\∃ o,K.lookup f=some o/\o.data = .func fd
structure DefAt (K:W.Frag) (mg:Str->Option Value) (x:Str) (st:Stmt):Prop where
 ex:∃ f fd,Fun K x x st f fd/\mg x=some (.ref f)
theorem def_mk {K:W.Frag} {mg:Str->Option Value} {h:Heap} {x:Str} {st:Stmt} {f:Addr} {oc:Value} {od an:Option Addr} {osl:Array (Option Value)} {kV doc pm cdv ct:Value} (X:K.In h) (G:h.Ns mainGlobals mg)
  (a:PySem.W.nsIn K mainGlobals x=some (some (.ref f)))
  (l:K.lookup f=some ⟨oc,od,.func (PySem.W.fnOf x x (defArgs st) (defBody st) (defScope st) .none kV doc pm an cdv ct),osl⟩)
  (c:PySem.W.codeIn K cdv x=true) (k:PySem.W.keepIn K (.ref f)=true):DefAt K mg x st:=⟨f,_,zgz l c k,PySem.W.mg_of X G a⟩
theorem int_mk {K:W.Frag} {mg:Str->Option Value} {h:Heap} {x:Str} {i:Int} {t:Tok} (X:K.In h) (G:h.Ns mainGlobals mg) (a:PySem.W.nsIn K mainGlobals x=some (some (.int i t))):∃ t,mg x=some (.int i t):=⟨t,PySem.W.mg_of X G a⟩
section
variable {P:Program} {w:World} {K:W.Frag} {mg:Str->Option Value} {base:Heap}
theorem DefAt.callee {x:Str} {st:Stmt} {N ps:List Str} {k:Nat} {sp:Sp} (D:DefAt K mg x st) (S:FnScope N ps (defScope st))
  (hb:∀ (kV doc pm:Value) (an:Option Addr) (cdv ct:Value) (us:List Value),us.length=ps.length->bindArgs (PySem.W.fnOf x x (defArgs st) (defBody st) (defScope st) .none kV doc pm an cdv ct) ⟨us,[]⟩=pure (ps.zip us))
  (len:∀ vs H Q E,sp vs H Q E->vs.length=ps.length)
  (hbody:∀ (f:Addr) (cdv:Value) (A:Around) (outer:List Env) (s:Shared) (H:Hp) (vs:List V) (Q:VK) (E:XK),Room k (A.deeper (envOfC x (defScope st) s.heap.objs.size f cdv))->sp vs H Q E ->
   ∃ t,PSs (cxOf CX0 P w K mg base N x (defScope st) f cdv A outer s H E).nox (defBody st) t/\t { nx:=fun _ H'=>Q .non H',rt:=Q } (start N vs) H):Callee P w K mg base x (k + 1) ps sp:=by
 obtain ⟨f,fd,F,m⟩:=D.ex
 obtain ⟨oc,od,kV,doc,pm,an,cdv,ct,osl,e,lk,hcd⟩:=id F.ex
 exact ⟨f,fd,F.ok S len (fun cdv A outer s H vs Q E hr h=>hbody f cdv A outer s H vs Q E hr h),m,F.kp,F.binds hb,_,lk,rfl⟩
end
section
variable {X:Cx} {x:Str} {k:Nat} {ps:List Str} {sp:Sp} {p pos:Pos} {e:Expr} {es:List Expr} {t:TA}
theorem zaK (C:Callee X.prog X.w X.K X.mg X.base x k ps sp) (hr:Room k X.A) (hg:Gl X x) (ha:PA X (e :: es) t) (hdb:(x == ("__debug__" : Str))=false:=by decide)
  (he:starEach (e :: es) X.env=(false,eval e X.env) :: starEach es X.env:=by rfl) (hpl:(backTo pos (starEach es X.env)).any (·.1)=false:=by rfl):PE X (.Call (.Name x p) (e :: es) [] pos) (tCall sp [] E0 t):=by
 obtain ⟨f,fd,F,hm,hk,hb,_⟩:=C.ex
 exact zgj F hr hg hm hk hb .nil zdn ha hdb he hpl
end
structure Bn (mg:Str->Option Value):Prop where
 n_len:mg "len" = none
 n_all:mg "all" = none
 n_any:mg "any" = none
 n_max:mg "max" = none
 n_min:mg "min" = none
 n_sum:mg "sum" = none
 n_sorted:mg "sorted" = none
 n_isinstance:mg "isinstance" = none
 n_int:mg "int" = none
 n_bool:mg "bool" = none
 n_str:mg "str" = none
 n_list:mg "list" = none
 n_tuple:mg "tuple" = none
 n_dict:mg "dict" = none
 n_set:mg "set" = none
 n_range:mg "range" = none
 n_reversed:mg "reversed" = none
 n_repr:mg "repr" = none
 n_abs:mg "abs" = none
 n_enumerate:mg "enumerate" = none
 n_zip:mg "zip" = none
theorem bn_mk {K:W.Frag} {mg:Str->Option Value} {h:Heap} (X:K.In h) (G:h.Ns mainGlobals mg)
  (a_len:PySem.W.nsIn K mainGlobals "len" = some none)
  (a_all:PySem.W.nsIn K mainGlobals "all" = some none)
  (a_any:PySem.W.nsIn K mainGlobals "any" = some none)
  (a_max:PySem.W.nsIn K mainGlobals "max" = some none)
  (a_min:PySem.W.nsIn K mainGlobals "min" = some none)
  (a_sum:PySem.W.nsIn K mainGlobals "sum" = some none)
  (a_sorted:PySem.W.nsIn K mainGlobals "sorted" = some none)
  (a_isinstance:PySem.W.nsIn K mainGlobals "isinstance" = some none)
  (a_int:PySem.W.nsIn K mainGlobals "int" = some none)
  (a_bool:PySem.W.nsIn K mainGlobals "bool" = some none)
  (a_str:PySem.W.nsIn K mainGlobals "str" = some none)
  (a_list:PySem.W.nsIn K mainGlobals "list" = some none)
  (a_tuple:PySem.W.nsIn K mainGlobals "tuple" = some none)
  (a_dict:PySem.W.nsIn K mainGlobals "dict" = some none)
  (a_set:PySem.W.nsIn K mainGlobals "set" = some none)
  (a_range:PySem.W.nsIn K mainGlobals "range" = some none)
  (a_reversed:PySem.W.nsIn K mainGlobals "reversed" = some none)
  (a_repr:PySem.W.nsIn K mainGlobals "repr" = some none)
  (a_abs:PySem.W.nsIn K mainGlobals "abs" = some none)
  (a_enumerate:PySem.W.nsIn K mainGlobals "enumerate" = some none)
  (a_zip:PySem.W.nsIn K mainGlobals "zip" = some none)
  : Bn mg:=⟨PySem.W.mg_none_of X G a_len,PySem.W.mg_none_of X G a_all,PySem.W.mg_none_of X G a_any,PySem.W.mg_none_of X G a_max,PySem.W.mg_none_of X G a_min,PySem.W.mg_none_of X G a_sum,PySem.W.mg_none_of X G a_sorted,PySem.W.mg_none_of X G a_isinstance,PySem.W.mg_none_of X G a_int,PySem.W.mg_none_of X G a_bool,PySem.W.mg_none_of X G a_str,PySem.W.mg_none_of X G a_list,PySem.W.mg_none_of X G a_tuple,PySem.W.mg_none_of X G a_dict,PySem.W.mg_none_of X G a_set,PySem.W.mg_none_of X G a_range,PySem.W.mg_none_of X G a_reversed,PySem.W.mg_none_of X G a_repr,PySem.W.mg_none_of X G a_abs,PySem.W.mg_none_of X G a_enumerate,PySem.W.mg_none_of X G a_zip⟩
theorem DefAt.entry {P:Program} {w:World} {K:W.Frag} {mg:Str->Option Value} {x p:Str} {st:Stmt} {k:Nat} {sp:Sp} {fa:Addr} (D:DefAt K mg x st) (hfa:mg x=some (.ref fa))
  (hb:∀ (kV doc pm:Value) (an:Option Addr) (cdv ct v:Value),bindArgs (PySem.W.fnOf x x (defArgs st) (defBody st) (defScope st) .none kV doc pm an cdv ct) ⟨[v],[]⟩=pure [(p,v)])
  (C:∀ base:Heap,Callee P w K mg base x k [p] sp) :
  ∃ fd:FuncData,(∀ (s:Shared) (v:Value),BindsTo s fd ⟨[v],[]⟩ [(p,v)])/\∀ base:Heap,K.In base->base.Ns mainGlobals mg->FnOk P w K mg base CX0 k fa fd [p] sp:=by
 obtain ⟨f,fd,F,m⟩:=D.ex
 rw [m] at hfa
 cases hfa
 obtain ⟨oc,od,kV,doc,pm,an,cdv,ct,osl,rfl,lk,hcd⟩:=F.ex
 refine ⟨_,fun s v => .of_eq (hb kV doc pm an cdv ct v),fun base _ _ => ?_⟩
 obtain ⟨f',fd',G,m',_,_,o,lo,ed⟩:=(C base).ex
 rw [m] at m'
 cases m'
 rw [lk] at lo
 cases lo
 cases ed
 exact G
structure Fly (B:Heap) (l:List Env) (x:Addr) (c fl:Value) (h:Heap):Prop where
 stay:B.StaysIn h
 new:B.get? x=none
 frs:h.FunFrames B l
 obj:∃ (oe:Obj) (vs:Array Value) (T:Addr) (oT:Obj) (ts:Array Value),h.get? x=some oe/\(oe.cls=c/\oe.dict=none)/\oe.data = .fields vs/\vs[1]?=some (.ref T)/\vs[2]?=some .none/\B.get? T=none/\T≠x/\h.get? T=some oT/\oT.data = .fields ts/\ts[3]?=some fl
structure Fresh (B:Heap) (l:List Env) (x:Addr) (c:Value) (h:Heap):Prop where
 stay:B.StaysIn h
 new:B.get? x=none
 frs:h.FunFrames B l
 obj:∃ (oe:Obj) (vs:Array Value),h.get? x=some oe/\(oe.cls=c/\oe.dict=none)/\oe.data = .fields vs/\vs[1]?=some .none/\vs[2]?=some .none
section
variable {M:Model} {A:Around} {E:Value->Shared->Prop} {s:Shared} {B:Heap} {l outer:List Env} {env:Env} {x L:Addr} {c:Value}
theorem dict_mapFields (o:Obj) (f:Array Value->Array Value):(o.mapFields f).dict=o.dict:=by
 unfold Obj.mapFields
 split <;> rfl
theorem zaJ {h:Heap} {a b:Addr} {o:Obj} {vs:Array Value} {f:Array Value->Array Value} (ha:h.get? a=some o) (hd:o.data = .fields vs) :
  (h.update a (Obj.mapFields f)).get? a=some (o.mapFields f)/\(b≠a->(h.update a (Obj.mapFields f)).get? b=h.get? b) :=
 ⟨Heap.get?_update_self _ ha (Obj.isFreed_of_fields (Obj.data_mapFields hd f)),fun hb=>Heap.get?_update_other _ _ (Ne.symm hb)⟩
theorem zeJ {oe:Obj} {vs:Array Value} {head:Value} {hadNext:Bool} {Q:Unit->Shared->Prop} (hfr:A.frames=some (env :: outer)) (hl:s.heap.FunFrames B (env :: outer)) (hf:env.frame=some L)
  (st:B.StaysIn s.heap) (nx:B.get? x=none) (hx:s.heap.get? x=some oe) (hc:oe.cls=c/\oe.dict=none) (hd:oe.data = .fields vs) (h2:vs[2]?=some .none)
  (k:∀ h',Fly B (env :: outer) x c (rawInt L) h'->s.heap.UpToSlots h'->Q () { s with heap:=h' }) :
  wpAny M A (do let a <- frameOf env; let pl <- entryPlaceOf L hadNext; let b <- EntryCells.newEntry head a .none (rawInt L) .none pl; setField (.ref x) 1 b) Q E s:=by
 have hsz:2 < vs.size:=(Array.getElem?_eq_some_iff.mp h2).1
 have xnf:x ∉ (env :: outer).filterMap (·.frame):=fun hm=>by
  obtain ⟨_,o,ho,hno⟩:=hl.mem hm
  rw [hx] at ho
  cases ho
  exact hno vs hd
 refine wpAny_bind (wpAny_frameOf_fun hfr hl hf fun g1 so=>wpAny_bind (wpAny_entryPlaceOf fun pl hpl => ?_))
 unfold EntryCells.newEntry newFields
 refine wpAny_bind (wpAny_newObj_type ?_ (hpl.sizeOk5 _ _ _ _ _))
 have hx1:g1.get? x=some oe:=(so.2.1 x xnf).trans hx
 have st1:B.StaysIn g1:=fun b o hb=>by
  refine (so.2.1 b fun hm => ?_).trans (st b o hb)
  have:=(hl.mem hm).1
  rw [hb] at this
  cases this
 have big:x < g1.objs.size:=Heap.lt_size hx1
 generalize hnew:({ cls := .type "traceback",dict:=none,data := .fields ([head,.ref L,.none,rawInt L,.none] ++ (if pl.isEmpty then List.replicate 6 Value.none else pl)).toArray }:Obj)=tb
 have hx2:(g1.push tb).get? x=some oe:=Heap.get?_push_of_some tb hx1
 refine wpAny_setField hx2 hd (by omega) (k _ ?_ ?_)
 ·have tx:g1.objs.size≠x:=Nat.ne_of_gt big
  obtain ⟨e1,e2⟩:=zaJ (b:=g1.objs.size) (f:=fun a=>a.setIfInBounds 1 (Value.ref g1.objs.size)) hx2 hd
  have hT:(g1.push tb).get? g1.objs.size=some tb:=Heap.get?_push_size g1 (by rw [<- hnew]; rfl)
  refine ⟨fun b o hb => ?_,nx,hl.of_keeps fun b o hb hno => ?_,_,_,g1.objs.size,tb,_,e1,⟨(Obj.cls_mapFields _ _).trans hc.1,(dict_mapFields _ _).trans hc.2⟩,Obj.data_mapFields hd _,(by show (vs.setIfInBounds 1 (Value.ref g1.objs.size))[1]?=_; simp [show 1 < vs.size by omega]),?_,st1.fresh,tx,(e2 tx).trans hT,by rw [<- hnew],?_⟩
  ·obtain ⟨_,e3⟩:=zaJ (b:=b) (f:=fun a=>a.setIfInBounds 1 (Value.ref g1.objs.size)) hx2 hd
   refine (e3 fun z => ?_).trans (Heap.get?_push_of_some tb (st1 b o hb))
   rw [z,nx] at hb
   cases hb
  ·have bx:b≠x:=fun z=>by
    rw [z,hx] at hb
    cases hb
    exact hno vs hd
   obtain ⟨sl,hs⟩:=so.2.2 b o hb
   obtain ⟨_,e3⟩:=zaJ (b:=b) (f:=fun a=>a.setIfInBounds 1 (Value.ref g1.objs.size)) hx2 hd
   exact ⟨_,(e3 bx).trans (Heap.get?_push_of_some tb hs),rfl⟩
  ·rw [Array.getElem?_setIfInBounds_ne (by decide)]
   exact h2
  ·rcases hpl with rfl | ⟨_,_,_,_,_,_,_,rfl⟩ <;> rfl
 ·intro b o hb hno
  have bx:b≠x:=fun z=>by
   rw [z,hx] at hb
   cases hb
   exact hno vs hd
  obtain ⟨sl,hs⟩:=so.2.2 b o hb
  obtain ⟨_,e3⟩:=zaJ (b:=b) (f:=fun a=>a.setIfInBounds 1 (Value.ref g1.objs.size)) hx2 hd
  exact ⟨sl,(e3 bx).trans (Heap.get?_push_of_some tb hs)⟩
theorem zcW {fl:Value} {Q:Unit->Shared->Prop} (F:Fly B l x c fl s.heap) (k:∀ h',Fly B l x c .none h'->s.heap.UpToSlots h'->Q () { s with heap:=h' }):wpAny M A (setFlight (.ref x) none) Q E s:=by
 obtain ⟨oe,vs,T,oT,ts,hx,hc,hd,h1,h2,nT,tx,hT,dT,h3⟩:=F.obj
 have hsz:3 < ts.size:=(Array.getElem?_eq_some_iff.mp h3).1
 unfold setFlight
 refine wpAny_bind (wpAny_field hx hd h1 ?_)
 rw [if_pos (by simp)]
 refine wpAny_setField hT dT hsz (k _ ?_ ?_)
 ·have e:∀ b,b≠T->(s.heap.update T (Obj.mapFields (·.setIfInBounds 3 ((none:Option Addr).elim Value.none fun f=>rawInt f)))).get? b=s.heap.get? b:=fun b hb=>(zaJ hT dT).2 hb
  refine ⟨fun b o hb=>(e b fun z => ?_).trans (F.stay b o hb),F.new,F.frs.of_keeps fun b o hb hno=>⟨o,(e b fun z => ?_).trans hb,rfl⟩,oe,vs,T,_,_,(e x (Ne.symm tx)).trans hx,hc,hd,h1,h2,nT,tx,(zaJ (b:=T) hT dT).1,Obj.data_mapFields dT _,by simp [hsz]⟩
  ·rw [z,nT] at hb; cases hb
  ·rw [z,hT] at hb; cases hb; exact hno ts dT
 ·intro b o hb hno
  refine ⟨o.slots,((zaJ hT dT).2 fun z => ?_).trans hb⟩
  rw [z,hT] at hb; cases hb; exact hno ts dT
theorem zfK {Q:Unit->Shared->Prop} (hfr:A.frames=some (env :: outer)) (hf:env.frame=some L) (F:Fly B (env :: outer) x c .none s.heap)
  (k:∀ h',Fly B (env :: outer) x c (rawInt L) h'->s.heap.UpToSlots h'->Q () { s with heap:=h' }):wpAny M A (noteFrame (.ref x) env) Q E s:=by
 obtain ⟨oe,vs,T,oT,ts,hx,hc,hd,h1,h2,nT,tx,hT,dT,h3⟩:=F.obj
 have hsz:3 < ts.size:=(Array.getElem?_eq_some_iff.mp h3).1
 unfold noteFrame
 simp only [hf]
 refine wpAny_bind (wpAny_field hx hd h1 ?_)
 rw [if_pos (by simp)]
 refine wpAny_bind (wpAny_field hT dT h3 ?_)
 rw [if_neg (by simp [rawInt])]
 refine wpAny_bind (wpAny_setField hT dT hsz ?_)
 have e:∀ b,b≠T->(s.heap.update T (Obj.mapFields (·.setIfInBounds 3 Value.none))).get? b=s.heap.get? b:=fun b hb=>(zaJ hT dT).2 hb
 have nf:∀ b o,s.heap.get? b=some o->(∀ vs,o.data ≠ .fields vs)->b≠T:=fun b o hb hno z=>by
  rw [z,hT] at hb; cases hb; exact hno ts dT
 refine zeJ hfr (F.frs.of_keeps fun b o hb hno=>⟨o,(e b (nf b o hb hno)).trans hb,rfl⟩) hf (fun b o hb=>(e b fun z => ?_).trans (F.stay b o hb)) F.new ((e x (Ne.symm tx)).trans hx) hc hd h2 fun h' F' u=>k h' F' fun b o hb hno => ?_
 ·rw [z,nT] at hb; cases hb
 ·exact u b o ((e b (nf b o hb hno)).trans hb) hno
theorem fresh_note {Q:Unit->Shared->Prop} (hfr:A.frames=some (env :: outer)) (hf:env.frame=some L) (F:Fresh B (env :: outer) x c s.heap)
  (k:∀ h',Fly B (env :: outer) x c (rawInt L) h'->s.heap.UpToSlots h'->Q () { s with heap:=h' }):wpAny M A (noteFrame (.ref x) env) Q E s:=by
 obtain ⟨oe,vs,hx,hc,hd,h1,h2⟩:=F.obj
 unfold noteFrame
 simp only [hf]
 refine wpAny_bind (wpAny_field hx hd h1 ?_)
 rw [if_neg (by decide)]
 exact zeJ hfr F.frs hf F.stay F.new hx hc hd h2 k
theorem Fly.tail {fl:Value} {h:Heap} (F:Fly B (env :: outer) x c fl h):Fly B outer x c fl h:=⟨F.stay,F.new,F.frs.2.2,F.obj⟩
theorem fly_leave {Q:Unit->Shared->Prop} (hfr:A.frames=some (env :: outer)) (hf:env.frame=some L) (F:Fly B (env :: outer) x c .none s.heap)
  (k:∀ h',Fly B outer x c .none h'->s.heap.UpToSlots h'->Q () { s with heap:=h' }):wpAny M A (leaving env (.ref x)) Q E s:=by
 unfold leaving
 exact wpAny_bind (zfK hfr hf F fun h1 F1 u1=>zcW (s:={ s with heap:=h1 }) F1 fun h2 F2 u2=>k h2 F2.tail (u1.trans u2))
theorem fresh_leave {Q:Unit->Shared->Prop} (hfr:A.frames=some (env :: outer)) (hf:env.frame=some L) (F:Fresh B (env :: outer) x c s.heap)
  (k:∀ h',Fly B outer x c .none h'->s.heap.UpToSlots h'->Q () { s with heap:=h' }):wpAny M A (leaving env (.ref x)) Q E s:=by
 unfold leaving
 exact wpAny_bind (fresh_note hfr hf F fun h1 F1 u1=>zcW (s:={ s with heap:=h1 }) F1 fun h2 F2 u2=>k h2 F2.tail (u1.trans u2))
end
section
variable {P:Program} {w:World}
theorem ObjOk.there {H:Hp} {h:Heap} {a:Addr} {o:HO} (x:ObjOk P w H h a o):∃ ob,h.get? a=some ob:=by
 cases o with
 | lst xs=>obtain ⟨_,_,_,_,e⟩:=x; exact ⟨_,e⟩
 | tup xs=>obtain ⟨_,_,_,o,e,_⟩:=x; exact ⟨o,e⟩
 | dK kvs=>obtain ⟨_,_,_,_,o,_,_,e,_⟩:=x; exact ⟨o,e⟩
 | dT kvs=>obtain ⟨_,_,_,_,o,_,_,e,_⟩:=x; exact ⟨o,e⟩
 | set S n=>obtain ⟨o,_,_,_,e,_⟩:=x; exact ⟨o,e⟩
 | ins C dx fs=>obtain ⟨_,_,_,e,_⟩:=x; exact ⟨_,e⟩
 | own y=>exact x
 | xd fs=>obtain ⟨_,⟨o,_,_,e,_⟩,_⟩:=x; exact ⟨o,e⟩
 | rng lo hi=>obtain ⟨_,_,_,e⟩:=x; exact ⟨_,e⟩
 | frz ob u=>obtain ⟨e,_⟩:=x; exact ⟨_,e⟩
 | tbl ps=>exact ⟨_,(show h.get? a=some _ from x)⟩
 | met f y=>exact ⟨_,(show h.get? a=some _ from x)⟩
 | ext φ => obtain ⟨_,e,_⟩:=x; exact e
noncomputable def CX1 (P:Program) (w:World):CXT:=fun outer H s E e s'=>∃ (x:Addr) (c:Value) (B:Heap) (H':Hp),e = .ref x/\Fly B outer x c .none s'.heap/\s'.os=s.os/\AllBare s'.gens/\Un (frs outer) [] H H' s.heap s'.heap/\HOk P w H' s'.heap/\H' x=none /\
 (∀ b o,H' b=some o->∃ ob,B.get? b=some ob)/\(∀ b o,s.heap.get? b=some o->b ∉ frs outer->∃ ob,B.get? b=some ob)/\E c none H'
theorem ze4 {B h h':Heap} {H:Hp} (ok:HOk P w H h) (st:B.StaysIn h) (st':B.StaysIn h') (inB:∀ b o,H b=some o->∃ ob,B.get? b=some ob):HOk P w H h':=fun a o e=>by
 refine (ok a o e).stay (fun b u hb q => ?_) (fun _ q=>q) fun _ _ q=>q
 have ⟨ob,hB⟩:∃ ob,B.get? b=some ob:=by
  rcases hb with z | z
  ·rw [z]; exact inB a o e
  ·exact inB b _ z
 have:=st b ob hB
 rw [q] at this
 cases this
 exact st' b _ hB
theorem zgA {B h0 h h':Heap} {fs:List Addr} {H H':Hp} (u:Un fs [] H H' h0 h) (st:B.StaysIn h) (st':B.StaysIn h') (up:h.UpToSlots h') (inB:∀ b o,h0.get? b=some o->b ∉ fs->∃ ob,B.get? b=some ob)
  (hfs:∀ b∈fs,∀ o,h.get? b=some o->∀ vs,o.data ≠ .fields vs):Un fs [] H H' h0 h' where
 keep:=fun b o e n hb hx=>by
  obtain ⟨ob,hB⟩:=inB b o e hb
  have q:=u.keep b o e n hb hx
  have:=st b ob hB
  rw [q] at this
  cases this
  exact st' b _ hB
 slot:=fun b o e n hb hx=>by
  obtain ⟨sl,q⟩:=u.slot b o e n hb hx
  obtain ⟨sl',q'⟩:=up b _ q (hfs b hb _ q)
  exact ⟨sl',q'⟩
 free:=u.free
 there:=fun b o e hx=>by
  by_cases hb:b∈fs
  ·obtain ⟨o',q⟩:=u.there b o e hx
   obtain ⟨sl,q'⟩:=up b o' q (hfs b hb o' q)
   exact ⟨_,q'⟩
  ·obtain ⟨ob,hB⟩:=inB b o e hb
   exact ⟨ob,st' b ob hB⟩
 tups:=u.tups
 frzs:=u.frzs
 tbls:=u.tbls
theorem zcX {B h:Heap} {l:List Env} (f:h.FunFrames B l):∀ b∈frs l,∀ o,h.get? b=some o->∀ vs,o.data ≠ .fields vs:=fun b hb o e vs=>by
 obtain ⟨_,o',e',hno⟩:=f.mem hb
 rw [e] at e'
 cases e'
 exact hno vs
theorem zdr {X:Cx} {pins:List (Addr×Obj)} {σ : St} {H H':Hp} {s:Shared} {h':Heap} (I:Inv X pins σ H s) (hex:X.ex = []) (u:Un (frs X.stack) [] H H' s.heap h'):Un X.fs [] X.H₀ H' X.s₀.heap h':=by
 have nl:∀ b o,X.s₀.heap.get? b=some o->b≠X.env.locals:=fun b o e=>Nat.ne_of_lt (Nat.lt_of_lt_of_le (Heap.lt_size e) I.ok.above)
 have nst:∀ b o,X.s₀.heap.get? b=some o->b ∉ X.fs->b ∉ frs X.stack:=fun b o e hb z=>(List.mem_cons.mp (I.stkSub b z)).elim (nl b o e) hb
 have B:=I.base
 rw [hex] at B
 refine ⟨fun b o e n hb hx=>u.keep b o (B.keep b o e n hb hx) (B.free b o e n hx) (nst b o e hb) hx,fun b o e n hb hx => ?_,fun b o e n hx => ?_,fun b o e hx => ?_,fun b xs e=>u.tups b xs (B.tups b xs e),fun b o v e=>u.frzs b o v (B.frzs b o v e),fun b ps e => ?_⟩
 ·obtain ⟨sl,e1⟩:=B.slot b o e n hb hx
  obtain ⟨sl',e2⟩:=u.any e1 (B.free b o e n hx) hx
  exact ⟨sl',e2⟩
 ·obtain ⟨o',e1⟩:=B.there b o e hx
  exact u.free b o' e1 (B.free b o e n hx) hx
 ·obtain ⟨o',e1⟩:=B.there b o e hx
  exact u.there b o' e1 hx
 ·obtain ⟨m1,e1⟩:=B.tbls b ps e
  obtain ⟨m2,e2⟩:=u.tbls b _ e1
  exact ⟨m1 ++ m2,by rw [e2,Array.append_assoc]⟩
theorem zbg {K:W.Frag} {mg:Str->Option Value} {base:Heap} {N:List Str} {qual:Str} {scope:Scope} {f:Addr} {cd:Value} {A:Around} {outer:List Env} {s₀ : Shared} {H₀ : Hp} {E:XK} :
  Passes (CX1 P w) (cxOf (CX1 P w) P w K mg base N qual scope f cd A outer s₀ H₀ E) E:=by
 intro pins σ H s e s' I h
 obtain ⟨x,c,B,H',rfl,F,ho,hg,u,ok,nx,inB,old,q⟩:=h
 have hfr:(A.deeper (envOfC qual scope s₀.heap.objs.size f cd)).frames=some (envOfC qual scope s₀.heap.objs.size f cd :: outer):=I.ok.frames
 have ut:Un (frs outer) [] H₀ H' s₀.heap s'.heap:=zdr I rfl u
 have old':∀ b o,s₀.heap.get? b=some o->b ∉ frs outer->∃ ob,B.get? b=some ob:=fun b o e hb=>by
  obtain ⟨o',e1⟩:=I.base.there b o e (by show b ∉ ([]:List Addr); simp)
  refine old b o' e1 fun z => ?_
  rcases List.mem_cons.mp (I.stkSub b z) with z | z
  ·exact absurd (Nat.lt_of_lt_of_le (Heap.lt_size e) I.ok.above) (by rw [z]; exact Nat.lt_irrefl _)
  ·exact hb z
 show wpAny (model P w) _ (leaving _ (.ref x)) _ _ s'
 refine fly_leave hfr rfl F fun h' F' up=>⟨x,c,B,H',rfl,F',(show s'.os=s₀.os from ho.trans I.os),hg,zgA ut F.stay F'.stay up old' (zcX F.tail.frs),ze4 ok F.stay F'.stay inB,nx,inB,old',q⟩
theorem pass_no {X:Cx} {E:XK} (hE:∀ c d H,¬ E c d H):Passes (CX1 P w) X E:=fun _ _ _ _ _ _ _ h=>by
 obtain ⟨_,_,_,_,_,_,_,_,_,_,_,_,_,q⟩:=h
 exact (hE _ _ _ q).elim
theorem zaz {X:Cx}:Passes (CX1 P w) X E0:=pass_no fun _ _ _ h=>h
theorem raise_out {K:W.Frag} {mg:Str->Option Value} {base:Heap} {N:List Str} {qual:Str} {scope:Scope} {f:Addr} {cd:Value} {A:Around} {outer:List Env} {s₀ : Shared} {H₀ : Hp} {E:XK} {pins:List (Addr×Obj)} {σ : St} {H:Hp} {s s':Shared} {x:Addr} {c:Value} {args:List Value}
  (I:Inv (cxOf (CX1 P w) P w K mg base N qual scope f cd A outer s₀ H₀ E) pins σ H s) (hx:Heap.MadeExcOf s.heap s'.heap x c args) (ho:s'.os=s.os) (hg:AllBare s'.gens) (q:E c none H) :
  (cxOf (CX1 P w) P w K mg base N qual scope f cd A outer s₀ H₀ E).xe (.ref x) s':=by
 have hfr:(A.deeper (envOfC qual scope s₀.heap.objs.size f cd)).frames=some (envOfC qual scope s₀.heap.objs.size f cd :: outer):=I.ok.frames
 have hin:∀ env∈envOfC qual scope s₀.heap.objs.size f cd :: outer,∀ a,env.frame=some a->a∈frs (envOfC qual scope s₀.heap.objs.size f cd :: outer):=fun env he a ha=>List.mem_filterMap.mpr ⟨env,he,ha⟩
 have st:(PySem.W.hideAll s.heap (frs (envOfC qual scope s₀.heap.objs.size f cd :: outer))).StaysIn s'.heap:=fun b o e=>hx.keeps b o (PySem.W.of_hideAll _ e)
 have nx:(PySem.W.hideAll s.heap (frs (envOfC qual scope s₀.heap.objs.size f cd :: outer))).get? x=none:=by
  cases e:(PySem.W.hideAll s.heap (frs (envOfC qual scope s₀.heap.objs.size f cd :: outer))).get? x with
  | none=>rfl
  | some o =>
   have:=PySem.W.of_hideAll _ e
   rw [hx.new] at this
   cases this
 have fr0:s.heap.FunFrames (PySem.W.hideAll s.heap (frs (envOfC qual scope s₀.heap.objs.size f cd :: outer))) (envOfC qual scope s₀.heap.objs.size f cd :: outer):=PySem.W.funFrames_hide I.stack hin
 obtain ⟨t,hobj,_,_⟩:=hx.there
 have F:Fresh (PySem.W.hideAll s.heap (frs (envOfC qual scope s₀.heap.objs.size f cd :: outer))) (envOfC qual scope s₀.heap.objs.size f cd :: outer) x c s'.heap :=
  ⟨st,nx,fr0.of_keeps fun b o hb _=>⟨o,hx.keeps b o hb,rfl⟩,_,_,hobj,⟨rfl,rfl⟩,rfl,rfl,rfl⟩
 have inB:∀ b o,s.heap.get? b=some o->b ∉ frs (envOfC qual scope s₀.heap.objs.size f cd :: outer)->∃ ob,(PySem.W.hideAll s.heap (frs (envOfC qual scope s₀.heap.objs.size f cd :: outer))).get? b=some ob:=fun b o e hb=>⟨o,PySem.W.hideAll_get _ e hb⟩
 have trk:∀ b o,H b=some o->∃ ob,(PySem.W.hideAll s.heap (frs (envOfC qual scope s₀.heap.objs.size f cd :: outer))).get? b=some ob:=fun b o e=>by
  have lt:=I.hok.lt e
  cases e2:s.heap.get? b with
  | none =>
   exfalso
   have ok:=I.hok b o e
   obtain ⟨ob,hob⟩:=ok.there
   rw [e2] at hob
   cases hob
  | some ob =>
   refine inB b ob e2 fun z => ?_
   have:=I.stkFree b z
   rw [e] at this
   cases this
 have old:∀ b o,s₀.heap.get? b=some o->b ∉ frs outer->∃ ob,(PySem.W.hideAll s.heap (frs (envOfC qual scope s₀.heap.objs.size f cd :: outer))).get? b=some ob:=fun b o e hb=>by
  obtain ⟨o',e1⟩:=I.base.there b o e (by show b ∉ ([]:List Addr); simp)
  refine inB b o' e1 fun z => ?_
  rcases List.mem_cons.mp (I.stkSub b z) with z | z
  ·exact absurd (Nat.lt_of_lt_of_le (Heap.lt_size e) I.ok.above) (by rw [z]; exact Nat.lt_irrefl _)
  ·exact hb z
 have u0:Un (frs outer) [] H₀ H s₀.heap s.heap:=zdr I rfl Un.refl
 have u1:Un (frs outer) [] H₀ H s₀.heap s'.heap:=u0.trans (Un.kept hx.keeps)
 have ok1:HOk P w H s'.heap:=I.hok.kept hx.keeps
 have nxH:H x=none:=by
  cases e:H x with
  | none=>rfl
  | some o =>
   obtain ⟨ob,hob⟩:=(I.hok x o e).there
   rw [hx.new] at hob
   cases hob
 show wpAny (model P w) _ (leaving _ (.ref x)) _ _ s'
 exact fresh_leave hfr rfl F fun h' F' up=>⟨x,c,_,H,rfl,F',(show s'.os=s₀.os from ho.trans I.os),hg,zgA u1 F.stay F'.stay up old (zcX F.frs.2.2),ze4 ok1 F.stay F'.stay trk,nxH,trk,old,q⟩
end
theorem entry_unchain:entryFor table "proto.unchain" = some Builtin.«proto.unchain» := entryFor_of_tree (by kernel_rfl)
section
variable {prog:Program} {w:World} {A:Around} {E:Value->Shared->Prop} {s:Shared}
theorem raiseNew_h {α : Type} {x e:Addr} {ox oe:Obj} {vs xs:Array Value} {Q : α -> Shared->Prop} (hh:A.handled=some (.ref e)) (hx:s.heap.get? x=some ox) (dx:ox.data = .fields xs) (hs:2 < xs.size) (ne:e≠x)
  (he:s.heap.get? e=some oe) (de:oe.data = .fields vs) (h2:vs[2]?=some .none)
  (h:E (.ref x) { s with heap:=s.heap.update x (Obj.mapFields (·.setIfInBounds 2 (.ref e))) }):wpAny (model prog w) A (raiseNew (.ref x):Sem α) Q E s:=by
 unfold raiseNew
 refine wpAny_bind (wpAny_handled ?_)
 rw [hh]
 dsimp only
 rw [if_pos (by simpa using ne)]
 refine wpAny_bind (wpAny_holding (wpAny_runValue (codeAny_builtin entry_unchain ?_)))
 unfold Builtin.«proto.unchain»
 dsimp only
 refine wpAny_bind (wpAny_field he de h2 ?_)
 rw [if_pos (by decide)]
 refine wpAny_pure ?_
 dsimp only
 refine wpAny_bind ?_
 unfold updateField
 refine wpAny_bind (wpAny_load hx ?_)
 rw [dx]
 dsimp only
 rw [if_pos hs]
 refine wpAny_update hx ?_
 exact wpAny_throw h
theorem range_end_h {it e:Addr} {oe:Obj} {vs:Array Value} {x left step:Int} {Q:Option Value->Shared->Prop} (hh:A.handled=some (.ref e)) (he:s.heap.get? e=some oe) (de:oe.data = .fields vs) (h2:vs[2]?=some .none)
  (hit:IsRangeIter s.heap it x left step) (hleft:left<=0)
  (hQ:∀ h',Heap.ExtBut it s.heap h'->Q none { s with heap:=h' }):wpAny (model prog w) A (pyNext (.ref it)) Q E s:=by
 have ty:s.TypeIs (.ref it) "range_iterator" := ⟨_,hit,rfl⟩
 unfold pyNext
 refine wpAny_bind (wpAny_attempt (wpAny_callSpecial?_slot (name:=Str.ofString "__next__") ty F.slot_range_iterator_next (wpAny_call_entry F.slot_range_iterator_next ty F.entry_range_iterator_next (?_:wpAny _ _ (field (.ref it) 0 >>= _) _ _ s) (F.args_range_iterator_next_1 _))))
 refine wpAny_bind (wpAny_field hit rfl (x:=rawInt x) rfl (?_:wpAny _ _ (field (.ref it) 1 >>= _) _ _ s))
 refine wpAny_bind (wpAny_field hit rfl (x:=rawInt left) rfl (?_:wpAny _ _ (field (.ref it) 2 >>= _) _ _ s))
 refine wpAny_bind (wpAny_field hit rfl (x:=rawInt step) rfl (?_:wpAny _ _ (if left<=0 then _ else _) _ _ s))
 rw [if_pos hleft]
 refine wpAny_bind (wpAny_rule (wpAny_bind (?_:wpAny _ _ (newExc (.type "StopIteration") [] >>= _) _ _ _)))
 refine wpAny_bind (?_:wpAny _ _ (newTuple [] >>= _) _ _ _)
 simp only [newTuple]
 refine wpAny_bind (wpAny_newObj_type (wpAny_bind (m:=firstArgMember _ _) (wpAny_of_eq (a:=Value.none) (by first | rfl | (simp only [firstArgMember]; rfl)) (wpAny_newObj_type ?_ (by size_fits)))) (by size_fits))
 refine raiseNew_h (A:=A.in1) (e:=e) (oe:=oe) (vs:=vs) (show A.in1.handled=some (.ref e) from hh) (Heap.get?_push_size _ rfl) rfl (by rw [Array.size_append]; exact Nat.lt_of_lt_of_le (show 2 < 6 by decide) (Nat.le_add_right _ _)) ?_ (Heap.get?_push_of_some _ (Heap.get?_push_of_some _ he)) de h2 ?_
 ·rw [Heap.size_push]
  exact Nat.ne_of_lt (Nat.lt_succ_of_lt (Heap.lt_size he))
 ·refine wpAny_bind (wpAny_isInstance (T := "StopIteration") (b:=true) ⟨_,Heap.get?_update_self _ (Heap.get?_push_size _ rfl) rfl,rfl⟩ isSubtype_stop ?_)
  refine wpAny_pure (hQ _ fun b o hb hbo => ?_)
  rw [Heap.get?_update_other _ _ ?_]
  ·exact Heap.get?_push_of_some _ (Heap.get?_push_of_some _ hbo)
  ·rw [Heap.size_push]
   exact Nat.ne_of_gt (Nat.lt_succ_of_lt (Heap.lt_size hbo))
end
noncomputable def QH (e:Addr) (oe:Obj) (Y:Cx):Prop:=Y.A.handled=some (.ref e)/\(e,oe)∈Y.pn/\∃ vs,oe.data = .fields vs/\vs[2]?=some .none
section
variable {X:Cx} {tg:Expr} {e:Addr} {oe:Obj}
theorem QH.comp {scope:Scope} {N:List Str} {cl:List (Str×Addr)} {C:Addr} {s:Shared} {H:Hp} {fp:List Addr} {pins:List (Addr×Obj)} (q:QH e oe X):QH e oe (cxComp X scope N cl C s H fp (X.pn ++ pins)) :=
 ⟨q.1,List.mem_append_left _ q.2.1,q.2.2⟩
theorem range_item_q {it:Addr} {lo:Int} {n i:Nat} {pins:List (Addr×Obj)} {s:Shared} {σ : St} {H:Hp} {E:Value->Shared->Prop} (I:Inv X pins σ H s) (hf:∀ b ∈ [it],FpOk X pins H b)
  (st:IsRangeIter s.heap it (lo + (i:Nat) * 1) ((n:Int) - (i:Nat)) 1) (hg:i < n) :
  wpAny (model X.prog X.w) X.A (pyNext (.ref it)) (fun r s1=>∃ u,r=some u /\
   wpAny (model X.prog X.w) X.A (letOwnedTupleGo tg (.ref it) u) (fun _ s2=>∃ x H',Inv X pins σ H' s2/\RelV x u/\(Itr lo n).yld i H x H'/\IsRangeIter s2.heap it (lo + ((i + 1:Nat):Int) * 1) ((n:Int) - ((i + 1:Nat):Int)) 1/\∀ b ∈ [it],H' b=none) E s1) E s:=by
 obtain ⟨f0,f1,f2,f3,f4,f5⟩:=hf it (by simp)
 refine wpAny_pyNext_range_item st (by omega) fun h' st' sb => ?_
 have I1:Inv X pins σ H { s with heap:=h',toks:=s.toks + 1 }:=I.turned (fun b o hb e=>(sb.2 b hb).trans e) f0 f1 f3 f4 f5
 have st2:IsRangeIter h' it (lo + ((i + 1:Nat):Int) * 1) ((n:Int) - ((i + 1:Nat):Int)) 1:=by
  have e1:lo + ((i + 1:Nat):Int) * 1=lo + (i:Nat) * 1 + 1:=by omega
  have e2:(n:Int) - ((i + 1:Nat):Int)=(n:Int) - (i:Nat) - 1:=by omega
  rw [e1,e2]; exact st'
 refine ⟨_,rfl,zgU (s:={ s with heap:=h',toks:=s.toks + 1 }) (n := "range_iterator") st2 rfl rfl (by decide) ⟨.int (lo + i),H,I1,⟨s.toks,?_⟩,⟨rfl,rfl⟩,st2,fun b hb=>(hf b hb).1⟩⟩
 rw [Int.mul_one]
theorem trn_range {P:Program} {w:World} {K:W.Frag} (it:Addr) (lo:Int) (n:Nat):Trn P w K (QH e oe) tg (Itr lo n) [it] it (fun i h=>IsRangeIter h it (lo + (i:Nat) * 1) ((n:Int) - (i:Nat)) 1) where
 obj:=fun i h st b hb=>by
  have e:b=it:=by simpa using hb
  subst e
  exact ⟨_,st,fun v z=>by
   have z':Data.fields _=Data.cell v:=z
   cases z'⟩
 keep:=fun i h h' st k=>k it (by simp) _ st
 steps:=fun Y hP hw hK hz=>⟨fun i pins s σ H E I hf st hg=>range_item_q I hf st hg,fun i pins s σ H E I hf st hg=>by
  obtain ⟨hh,hm,vs,de,h2⟩:=hz
  obtain ⟨f0,f1,f2,f3,f4,f5⟩:=hf it (by simp)
  exact range_end_h hh (I.pin (e,oe) (List.mem_append_left _ hm)).1 de h2 st (by have:n<=i:=hg; omega) fun h' eb=>⟨rfl,I.turned (t':=s.toks) (fun b o hb e=>eb b o hb e) f0 f1 f3 f4 f5⟩⟩
 self:=fun _ _ _ _ _ st h=>wpAny_pyIter_rangeiter st h
theorem range_itq {pins:List (Addr×Obj)} {σ : St} {H:Hp} {s:Shared} {R:It->Hp->Prop} {E:Value->Shared->Prop} {lo hi:Int} {t u v:Tok} {tk:Nat} (I:Inv X pins σ H s) (h1 : -(2 ^ 62)<=lo) (h2:lo < 2 ^ 62) (h3 : -(2 ^ 62)<=hi) (h4:hi < 2 ^ 62)
  (q:R (Itr lo (hi - lo).toNat) H):wpAny (model X.prog X.w) X.A (pyIter (.ref s.heap.objs.size)) (PIEq (QH e oe) X pins σ tg R) E { s with heap:=s.heap.push { cls := .type "range",data := .fields #[.int lo t,.int hi u,.int 1 v] },toks:=tk }:=by
 refine wpAny_pyIter_range (IsRange.new ..) (small_one h1 h2 h3 h4) ?_
 have I1:Inv X pins σ H { s with heap:=s.heap.push { cls := .type "range",data := .fields #[.int lo t,.int hi u,.int 1 v] },toks:=tk }:=I.kept fun b o e=>Heap.get?_push_of_some _ e
 refine ⟨(s.heap.push { cls := .type "range",data := .fields #[.int lo t,.int hi u,.int 1 v] }).objs.size,[(s.heap.push { cls := .type "range",data := .fields #[.int lo t,.int hi u,.int 1 v] }).objs.size],_,_,H,rfl,
  I1.kept (t':=tk) fun b o e=>Heap.get?_push_of_some _ e,trn_range _ lo (hi - lo).toNat,?_,fun b hb => ?_,q⟩
 ·have e1:lo + ((0:Nat):Int) * 1=lo:=by simp
  have e2:(((hi - lo).toNat:Nat):Int) - ((0:Nat):Int)=Builtin.Range.rangeSize lo hi 1:=by rw [rangeSize_one]; split <;> omega
  show IsRangeIter _ _ (lo + ((0:Nat):Int) * 1) ((((hi - lo).toNat:Nat):Int) - ((0:Nat):Int)) 1
  rw [e1,e2]
  exact Heap.get?_push_size _ rfl
 ·have e:b=(s.heap.push { cls := .type "range",data := .fields #[.int lo t,.int hi u,.int 1 v] }).objs.size:=by simpa using hb
  subst e
  exact I1.fpOk (Nat.le_refl _) (I1.hok.fresh (Nat.le_refl _))
theorem pi_range1q {a:Expr} {ta:TA} {p pos:Pos} (hg:Gl X "range") (hm:X.mg "range" = none) (ha:PA X [a] ta) (hs:starEach [a] X.env = [(false,eval a X.env)]:=by rfl):PIq (QH e oe) X tg (.Call (.Name "range" p) [a] [] pos) (iRng1 ta):=by
 intro pins s σ H R I h
 refine Call_ (zdH I hg hm boot_range (PyProof.Rows.callWith_type1 (thnE (ha pos pins s σ H _ I h) fun us s1 vs H1 I1 r1 q1 => ?_) hs rfl))
 obtain ⟨j,e,q1,q2,q⟩:=q1
 subst e
 cases r1 with
 | cons r rr =>
  cases rr
  obtain ⟨t,rfl⟩:=r
  exact call_range_1 (range_itq I1 (by omega) (by omega) q1 q2 (by simpa using q))
end
structure RoomH (k:Nat) (A:Around) (e:Addr):Prop where
 hd:A.handled=some (.ref e)
 dp:A.depth + 3 * k + 5 < recursionLimit
 un:A.units + 16 * k + 200 < cLine
theorem Room.mark {k:Nat} {A:Around} {e:Addr} (r:Room k A):RoomH k (A.mark (some (.ref e))) e:=⟨rfl,r.dp,r.un⟩
theorem RoomH.depth {k:Nat} {A:Around} {e:Addr} (r:RoomH k A e):A.depth < recursionLimit:=by have:=r.dp; omega
structure FnOkH (P:Program) (w:World) (K:W.Frag) (mg:Str->Option Value) (base:Heap) (e:Addr) (oe:Obj) (k:Nat) (f:Addr) (fd:FuncData) (ps:List Str) (sp:Sp):Prop where
 len:∀ vs H Q E,sp vs H Q E->vs.length=ps.length
 run:∀ (A:Around) (outer:List Env) (s:Shared) (H:Hp) (args:Args) (us:List Value) (vs:List V) (Q:VK),RoomH k A e->Env0 P w K mg base A outer s H->s.heap.get? e=some oe->H e=none->e ∉ frs outer->(∀ v,oe.data ≠ .cell v) ->
  BindsTo s fd args (ps.zip us)->Vals vs us->sp vs H Q E0->codeAny (model P w) A (.call (.ref f) args) (CR CX0 outer P w H s Q E0) s
noncomputable def cxH (P:Program) (w:World) (K:W.Frag) (mg:Str->Option Value) (base:Heap) (N:List Str) (qual:Str) (scope:Scope) (f:Addr) (cd:Value) (A:Around) (outer:List Env) (s:Shared) (H:Hp) (e:Addr) (oe:Obj):Cx :=
 { cxOf CX0 P w K mg base N qual scope f cd A outer s H E0 with calm:=false,pn := [(e,oe)],xe:=fun _ _=>False }
theorem cxH_q {P:Program} {w:World} {K:W.Frag} {mg:Str->Option Value} {base:Heap} {N:List Str} {qual:Str} {scope:Scope} {f:Addr} {cd:Value} {A:Around} {outer:List Env} {s:Shared} {H:Hp} {e:Addr} {oe:Obj} {vs:Array Value}
  (hh:A.handled=some (.ref e)) (de:oe.data = .fields vs) (h2:vs[2]?=some .none):QH e oe (cxH P w K mg base N qual scope f cd A outer s H e oe):=⟨hh,List.mem_singleton.mpr rfl,vs,de,h2⟩
theorem fn_ofH {P:Program} {w:World} {K:W.Frag} {mg:Str->Option Value} {base:Heap} {e:Addr} {oe:Obj} {k:Nat} {f:Addr} {name qual:Str} {params:Arguments} {body:List Stmt} {scope:Scope} {dV kV doc pm cdv ct oc:Value} {an od:Option Addr}
  {osl:Array (Option Value)} {N ps:List Str} {sp:Sp} (lk:K.lookup f=some ⟨oc,od,.func (PySem.W.fnOf name qual params body scope dV kV doc pm an cdv ct),osl⟩) (hcd:PySem.W.codeIn K cdv qual=true) (S:FnScope N ps scope)
  (len:∀ vs H Q E,sp vs H Q E->vs.length=ps.length)
  (hbody:∀ (A:Around) (outer:List Env) (s:Shared) (H:Hp) (vs:List V) (Q:VK),A.handled=some (.ref e)->sp vs H Q E0 ->
   ∃ t,PSs (cxH P w K mg base N qual scope f cdv A outer s H e oe) body t/\t { nx:=fun _ H'=>Q .non H',rt:=Q } (start N vs) H) :
  FnOkH P w K mg base e oe (k + 1) f (PySem.W.fnOf name qual params body scope dV kV doc pm an cdv ct) ps sp:=by
 refine ⟨len,fun A outer s H args us vs Q hr e0 he hn hne hnc hb r hsp => ?_⟩
 have hl:=len _ _ _ _ hsp
 have KX:K.In s.heap:=e0.mod.kin.keeps fun b o e=>(e0.bs b o e).1
 have lim:s.heap.NoLimit:=e0.mod.nolimit.keeps fun b o e=>(e0.bs b o e).1
 have hkind:∀ y∈ps.zip us,scope.names.lookup y.1=some .local\/(scope.names.lookup y.1=some .cell/\((cellsFrom (s.heap.objs.size + 1) scope.names []).lookup y.1).isSome=true):=fun ⟨n,v⟩ hy=>by
  rcases S.par n (List.of_mem_zip hy).1 with q | q
  ·exact .inl q
  ·exact .inr ⟨q,PySem.W.cellsFrom_some _ _ _ (.inl q)⟩
 refine codeAny_call_function hr.depth (KX _ _ lk) rfl S.co S.gen rfl (PySem.W.codeRec_of KX hcd) (hb _ _ _ _ ?_)
 refine wpAny_newFunctionEnv_cells S.kind hkind fun env hen s1 x => ?_
 subst hen
 refine ⟨lim.keeps x.toInCall.keep,codeAny_func ?_⟩
 obtain ⟨t,ht,hq⟩:=hbody A outer s H vs Q hr.hd hsp
 have I0:Inv (cxOf CX0 P w K mg base N qual scope f cdv { A with handled:=none } outer s H E0) [] (start N vs) H s1 :=
  zeF S rfl ⟨e0.frames,e0.mod,e0.bs,e0.bsz,e0.funs,e0.frf,e0.hok,e0.bare⟩ hl r x
 have I:Inv (cxH P w K mg base N qual scope f cdv A outer s H e oe) [] (start N vs) H s1:=by
  refine ⟨⟨I0.ok.mod,I0.ok.kind,I0.ok.glob,I0.ok.blt,I0.ok.above,I0.ok.inj,I0.ok.has,I0.ok.cab,(fun z=>absurd z Bool.false_ne_true),Around.frames_deeper e0.frames,I0.ok.stk,I0.ok.exf,I0.ok.bs,I0.ok.bsz,I0.ok.noex,I0.ok.exfs,I0.ok.funs,I0.ok.frf⟩,
   I0.os,I0.bare,I0.base,I0.loc,I0.cell,I0.free,I0.freeC,fun p hp => ?_,I0.hok,I0.len⟩
  have e1:p=(e,oe):=by
   rcases List.mem_append.mp hp with z | z
   ·exact List.mem_singleton.mp z
   ·cases z
  subst e1
  exact ⟨x.toInCall.keep _ _ he,hn,Nat.ne_of_lt (Heap.lt_size he),hne,hnc⟩
 refine wpAny_mono (ht [] s1 (start N vs) H _ I hq) (fun fl s' hs => ?_) fun e s' hs=>False.elim hs
 have fin:∀ {σ':St} {H':Hp} {v:V} {u:Value},Inv (cxH P w K mg base N qual scope f cdv A outer s H e oe) [] σ' H' s'->RelV v u->Q v H'->CE outer P w H s Q u s' :=
  fun {σ' H' v u} J rv q=>⟨v,H',J.os,J.bare,J.base,J.hok,rv,q⟩
 cases fl with
 | ret u =>
  obtain ⟨v,σ',H',J,rv,q⟩:=hs
  exact fin J rv q
 | next =>
  obtain ⟨σ',H',J,q⟩:=hs
  exact fin (v:=V.non) (u:=Value.none) J rfl q
 | brk =>
  obtain ⟨_,_,_,q⟩:=hs
  exact False.elim q
 | cont =>
  obtain ⟨_,_,_,q⟩:=hs
  exact False.elim q
section
variable {X:Cx} {k:Nat} {f:Addr} {fd:FuncData} {ps:List Str} {sp:Sp} {x:Str} {p pos:Pos} {ex:Expr} {es:List Expr} {t:TA} {e:Addr} {oe:Obj}
theorem pe_callH (F:FnOkH X.prog X.w X.K X.mg X.base e oe k f fd ps sp) (hr:RoomH k X.A e) (hp:(e,oe)∈X.pn) (hgd:e ∉ frs X.stack) (hg:Gl X x) (hm:X.mg x=some (.ref f)) (hk:PySem.W.keepIn X.K (.ref f)=true) (hb:Binds X.K fd ps [])
  (ha:PA X (ex :: es) t) (hdb:(x == ("__debug__" : Str))=false:=by decide) (he:starEach (ex :: es) X.env=(false,eval ex X.env) :: starEach es X.env:=by rfl) (hpl:(backTo pos (starEach es X.env)).any (·.1)=false:=by rfl) :
  PE X (.Call (.Name x p) (ex :: es) [] pos) (tCall sp [] E0 t):=by
 intro pins s σ H Q I h
 refine wpAny_Call_Name_kw (zcJ I hg hm ?_ hdb)
 refine PySem.W.callWith_K (h₀ := X.base) I.ok.mod.kin hk (thnE (ha pos pins s σ H _ I h) fun us s1 vs H1 I1 r q=>⟨I1.kIn,?_⟩) he hpl
 have q':sp vs H1 Q E0:=by simpa using q
 have hl:us.length=ps.length:=by rw [<- r.length]; exact F.len _ _ _ _ q'
 obtain ⟨e1,e2,e3,e4,e5⟩:=I1.pin (e,oe) (List.mem_append_left _ hp)
 have hb':=hb s1 us I1.kIn (by simpa using hl)
 rw [List.append_nil] at hb'
 refine wpAny_call (codeAny_mono (F.run X.A X.stack s1 H1 ⟨us,[]⟩ us vs Q hr I1.env0 e1 e2 hgd e5 hb' r q') fun r s' hq => ?_)
 cases r with
 | error e=>exact False.elim hq
 | ok fl =>
  cases fl with
  | ret u=>exact I1.after hq
  | next=>exact False.elim hq
  | brk=>exact False.elim hq
  | cont=>exact False.elim hq
end
structure Air (P:Program) (w:World) (outer:List Env) (H:Hp) (s:Shared) (E:XK) (B:Heap) (x:Addr) (c:Value) (H':Hp) (fl:Value) (s':Shared):Prop where
 fly:Fly B outer x c fl s'.heap
 os:s'.os=s.os
 bare:AllBare s'.gens
 un:Un (frs outer) [] H H' s.heap s'.heap
 hok:HOk P w H' s'.heap
 nx:H' x=none
 trk:∀ b o,H' b=some o->∃ ob,B.get? b=some ob
 old:∀ b o,s.heap.get? b=some o->b ∉ frs outer->∃ ob,B.get? b=some ob
 e:E c none H'
theorem Air.move {P:Program} {w:World} {outer:List Env} {H:Hp} {s:Shared} {E:XK} {B:Heap} {x:Addr} {c:Value} {H':Hp} {fl fl':Value} {s':Shared} {h':Heap} (a:Air P w outer H s E B x c H' fl s') (F:Fly B outer x c fl' h') (up:s'.heap.UpToSlots h') :
  Air P w outer H s E B x c H' fl' { s' with heap:=h' } :=
 ⟨F,a.os,a.bare,zgA a.un a.fly.stay F.stay up a.old (zcX a.fly.frs),ze4 a.hok a.fly.stay F.stay a.trk,a.nx,a.trk,a.old,a.e⟩
noncomputable def cxTry (X:Cx) (E:XK) (pn:List (Addr×Obj)):Cx :=
 { X with pn:=pn,xe:=fun e s'=>∃ pins σ H s,Inv { X with pn:=pn,xe:=fun _ _=>False } pins σ H s/\CX1 X.prog X.w X.stack H s E e s' }
noncomputable def cxHand (X:Cx) (x:Addr) (ox:Obj) (pn:List (Addr×Obj)):Cx :=
 { X with A:=X.A.mark (some (.ref x)),calm:=false,pn:=(x,ox) :: pn,xe:=fun _ _=>False }
section
variable {X:Cx} {pins:List (Addr×Obj)} {σ : St} {H:Hp} {s:Shared}
theorem zat {E:XK} {pn:List (Addr×Obj)}:Passes (CX1 X.prog X.w) (cxTry X E pn) E:=fun pins σ H s e s' I h =>
 ⟨pins,σ,H,s,⟨⟨I.ok.mod,I.ok.kind,I.ok.glob,I.ok.blt,I.ok.above,I.ok.inj,I.ok.has,I.ok.cab,I.ok.hd,I.ok.frames,I.ok.stk,I.ok.exf,I.ok.bs,I.ok.bsz,I.ok.noex,I.ok.exfs,I.ok.funs,I.ok.frf⟩,I.os,I.bare,I.base,I.loc,I.cell,I.free,I.freeC,I.pin,I.hok,I.len⟩,h⟩
theorem Inv.other {A:Around} {cm:Bool} {pn:List (Addr×Obj)} {xe:Value->Shared->Prop} {pins':List (Addr×Obj)} (I:Inv X pins σ H s) (hf:A.frames=X.A.frames) (hd:cm=true->A.handled=none)
  (hp:∀ p∈pn ++ pins',s.heap.get? p.1=some p.2/\H p.1=none/\p.1≠X.env.locals/\p.1 ∉ X.fs/\∀ v,p.2.data ≠ .cell v):Inv { X with A:=A,calm:=cm,pn:=pn,xe:=xe } pins' σ H s :=
 ⟨⟨I.ok.mod,I.ok.kind,I.ok.glob,I.ok.blt,I.ok.above,I.ok.inj,I.ok.has,I.ok.cab,hd,hf.trans I.ok.frames,I.ok.stk,I.ok.exf,I.ok.bs,I.ok.bsz,I.ok.noex,I.ok.exfs,I.ok.funs,I.ok.frf⟩,I.os,I.bare,I.base,I.loc,I.cell,I.free,I.freeC,hp,I.hok,I.len⟩
theorem Inv.lost {h':Heap} {m':Str->Option Value} {t':Nat} (I:Inv X pins σ H s) (hn':h'.Ns X.env.locals m') (hs:Heap.SameBut X.env.locals s.heap h'):Inv X pins (List.replicate X.N.length none) H { s with heap:=h',toks:=t' }:=by
 obtain ⟨m,hn,hl⟩:=id I.loc
 obtain ⟨oL,_,_,hoL,_⟩:=id hn
 refine ⟨I.ok,I.os,I.bare,⟨fun b o e n hb hx => ?_,fun b o e n hb hx => ?_,I.base.free,fun b o e hx => ?_,I.base.tups,I.base.frzs,I.base.tbls⟩,⟨m',hn',fun j y v' e1 e2 e3 => ?_⟩,fun y c e => ?_,I.free,I.freeC,fun p hp => ?_,fun b ob e => ?_,by simp⟩
 ·exact (hs.2 b (Nat.ne_of_lt (Nat.lt_of_lt_of_le (Heap.lt_size e) I.ok.above))).trans (I.base.keep b o e n hb hx)
 ·obtain ⟨sl,e1⟩:=I.base.slot b o e n hb hx
  exact ⟨sl,(hs.2 b (Nat.ne_of_lt (Nat.lt_of_lt_of_le (Heap.lt_size e) I.ok.above))).trans e1⟩
 ·obtain ⟨o',e1⟩:=I.base.there b o e hx
  exact ⟨o',(hs.2 b (Nat.ne_of_lt (Nat.lt_of_lt_of_le (Heap.lt_size e) I.ok.above))).trans e1⟩
 ·rw [List.getElem?_replicate] at e2
  split at e2 <;> cases e2
 ·obtain ⟨w',z⟩:=I.cell y c e
  exact ⟨w',z.sameBut hs (I.cne y c e)⟩
 ·obtain ⟨e,n,ne,nf,d⟩:=I.pin p hp
  exact ⟨(hs.2 p.1 ne).trans e,n,ne,nf,d⟩
 ·refine (I.hok b ob e).stay (fun c w' hc q=>(hs.2 c ?_).trans q) (fun _ q=>q) fun _ _ q=>q
  intro hcl
  rw [hcl] at hc
  rcases hc with z | z
  ·rw [<- z,I.free] at e; cases e
  ·rw [I.free] at z; cases z
noncomputable def tTry (X:Cx) (CE:Value) (i:Nat) (tb:XK->TS) (th:Addr->Value->TS):TS:=fun D σ H=>∃ E:XK,tb E D σ H /\
 ∀ c H' x,E c none H'->H' x=none->PySem.W.exmOne X.K c CE=some true/\th x c { nx:=fun _ _=>False,rt:=D.rt,bk:=fun _ _=>False,ct:=fun _ _=>False } ((List.replicate X.N.length none).set i (some (.ref x))) H'
theorem ps_try {body:List Stmt} {cn n:Str} {np hpos pos:Pos} {b₀ : Stmt} {suite:List Stmt} {i:Nat} {CE:Value} {tb:XK->TS} {th:Addr->Value->TS} (hst:X.stack=X.env :: X.outer) (hfr:X.env.frame=some X.env.locals) (hN:X.N.Nodup) (hi:X.N[i]?=some n)
  (hl:X.env.scope.names.lookup n=some .local) (hg:Gl X cn) (hm:X.mg cn=some CE)
  (hb:∀ E pn,PSs (cxTry X E pn) body (tb E))
  (hh:∀ x c ox pn vs,ox.cls=c/\ox.dict=none->ox.data = .fields vs->vs[2]?=some .none->x ∉ frs X.stack->PSs (cxHand X x ox pn) (b₀ :: suite) (th x c))
  (hd:(cn == ("__debug__" : Str))=false:=by decide) :
  PS X (.Try body [.ExceptHandler (some (.Name cn np)) (some n) (b₀ :: suite) hpos] [] [] pos) (tTry X CE i tb th):=by
 intro pins s σ H D I h
 obtain ⟨E,hbd,hex⟩:=h
 have I1:Inv (cxTry X E (X.pn ++ pins)) [] σ H s:=I.other rfl I.ok.hd (by rw [List.append_nil]; exact I.pin)
 have back:∀ {σ' H' s'},Inv (cxTry X E (X.pn ++ pins)) [] σ' H' s'->Inv X pins σ' H' s':=fun {σ' H' s'} J =>
  Inv.other (X:=cxTry X E (X.pn ++ pins)) (A:=X.A) (cm:=X.calm) (pn:=X.pn) (xe:=X.xe) J rfl I.ok.hd fun p hp=>J.pin p (List.mem_append_left _ hp)
 refine wpAny_Try_except (wpAny_mono (hb E (X.pn ++ pins) [] s σ H D I1 hbd) (fun f s1 q => ?_) fun e s1 q => ?_)
 ·cases f with
  | next=>obtain ⟨σ',H',J,q⟩:=q; exact wpAny_execs_nil ⟨σ',H',back J,q⟩
  | ret u=>obtain ⟨v,σ',H',J,r,q⟩:=q; exact ⟨v,σ',H',back J,r,q⟩
  | brk=>obtain ⟨σ',H',J,q⟩:=q; exact ⟨σ',H',back J,q⟩
  | cont=>obtain ⟨σ',H',J,q⟩:=q; exact ⟨σ',H',back J,q⟩
 ·obtain ⟨pins',σ',H1,s0,J,x,c,B,H2,rfl,F,ho,hgn,u,ok,nx,inB,old,q⟩:=q
  have a0:Air X.prog X.w (X.env :: X.outer) H1 s0 E B x c H2 .none s1:=hst ▸ ⟨F,ho,hgn,u,ok,nx,inB,old,q⟩
  have hfrm:X.A.frames=some (X.env :: X.outer):=hst ▸ I.ok.frames
  refine zfK hfrm hfr a0.fly fun h1 F1 u1 => ?_
  have a1:=a0.move F1 u1
  refine zcW a1.fly fun h2 F2 u2 => ?_
  have a2:=a1.move F2 u2
  obtain ⟨hE,hth⟩:=hex c H2 x q nx
  have inv2:∀ {fl s'},Air X.prog X.w (X.env :: X.outer) H1 s0 E B x c H2 fl s'->Inv { X with pn:=X.pn ++ pins,xe:=fun _ _=>False } pins' σ' H2 s':=fun {fl s'} a =>
   J.call' a.os (show Un (frs X.stack) [] H1 H2 s0.heap s'.heap by rw [hst]; exact a.un) a.hok a.bare fun b z=>absurd z (by simp)
  have J2:=inv2 a2
  have xo:x ∉ frs X.stack:=fun z=>by
   rw [hst] at z
   obtain ⟨oe,vs,_,_,_,h1,_,h2,_⟩:=a2.fly.obj
   exact zcX a2.fly.frs x z oe h1 vs h2
  have xl:x≠X.env.locals:=fun z=>xo (by rw [hst]; exact List.mem_filterMap.mpr ⟨X.env,List.mem_cons_self,by rw [z]; exact hfr⟩)
  have xf:x ∉ X.fs:=fun z=>xo (by
   rw [hst]
   obtain ⟨y,hy,e⟩:=List.mem_filterMap.mp z
   exact List.mem_filterMap.mpr ⟨y,List.mem_cons_of_mem _ hy,e⟩)
  have J2m:Inv { X with A:=X.A.mark (some (.ref x)),calm:=false,pn := [],xe:=fun _ _=>False } [] σ' H2 { s1 with heap:=h2 }:=J2.other rfl (fun z=>absurd z Bool.false_ne_true) fun p hp=>absurd hp (by simp)
  refine wpAny_handleBy_cons (codeAny_handlers_test (zcJ (X:={ X with A:=X.A.mark (some (.ref x)),calm:=false,pn := [],xe:=fun _ _=>False }) J2m hg hm ?_ hd)) (by intro q; cases q)
  have LT:PySem.W.Looks (model X.prog X.w) h2 (typeOf (.ref x)) c:=by
   obtain ⟨oe,vs,_,_,_,h1,hc,_⟩:=a2.fly.obj
   rw [<- hc.1]
   exact (PySem.W.Looks.ld h1).andThen .now
  refine (PySem.W.exm_one (M:=model X.prog X.w) J2.kIn LT hE).here ?_
  dsimp only
  rw [if_pos rfl]
  refine codeAny_handlers_suite_as ?_
  refine zcW a2.fly fun h3 F3 u3 => ?_
  have a3:=a2.move F3 u3
  have J3:=inv2 a3
  obtain ⟨ox,vs,T,oT,ts,hx,hc,hdx,h1x,h2x,nT,tx,hT,dT,h3x⟩:=a3.fly.obj
  have K3:Inv (cxHand X x ox (X.pn ++ pins)) [] σ' H2 { s1 with heap:=h3 }:=J3.other (A:=X.A.mark (some (.ref x))) (cm:=false) (pn:=(x,ox) :: (X.pn ++ pins)) (xe:=fun _ _=>False) rfl (fun z=>absurd z Bool.false_ne_true) fun p hp=>by
   rw [List.append_nil] at hp
   rcases List.mem_cons.mp hp with z | z
   ·subst z; exact ⟨hx,nx,xl,xf,fun v z=>by rw [hdx] at z; cases z⟩
   ·exact J3.pin p (List.mem_append_left _ z)
  have K3w:=K3.weak (σ':=List.replicate X.N.length none) (by rw [List.length_replicate]; exact K3.len.symm) fun i v e=>by
   rw [List.getElem?_replicate] at e
   split at e <;> cases e
  refine zdW (X:=cxHand X x ox (X.pn ++ pins)) (v:=V.ref x) K3w hN hi (.inl hl) rfl (fun s4 K4 => ?_) (.inr hl)
  refine wpAny_mono (hh x c ox (X.pn ++ pins) vs hc hdx h2x xo [] s4 _ H2 _ K4 hth) (fun f s5 q5 => ?_) fun _ _ z=>False.elim z
  cases f with
  | next=>obtain ⟨_,_,_,z⟩:=q5; exact False.elim z
  | brk=>obtain ⟨_,_,_,z⟩:=q5; exact False.elim z
  | cont=>obtain ⟨_,_,_,z⟩:=q5; exact False.elim z
  | ret u5 =>
   obtain ⟨v,σ5,H5,K5,r5,q5⟩:=q5
   obtain ⟨m5,hn5,_⟩:=id K5.loc
   refine wpAny_nameGoes (env:=X.env) (show X.env.kindOf n=some .local from hl) hn5 (by rw [I.ok.kind]; rfl) fun h6 m6 hn6 sb6 => ?_
   have K6:=K5.lost (t':=s5.toks + 1) hn6 sb6
   refine ⟨v,List.replicate X.N.length none,H5,?_,r5,q5⟩
   exact Inv.other (X:=cxHand X x ox (X.pn ++ pins)) (A:=X.A) (cm:=X.calm) (pn:=X.pn) (xe:=X.xe) K6 rfl I.ok.hd fun p hp=>K6.pin p (List.mem_append_left _ (List.mem_cons_of_mem _ hp))
end
structure ErrCls (K:W.Frag) (D:Addr):Prop where
 ga:PySem.W.findIn K (.ref D) "__getattribute__" = some (some (.builtin "BaseException.__getattribute__"))
 gh:PySem.W.findIn K (.ref D) "__getattr__" = some none
 hc:(PySem.W.clsIn K D).isSome=true
 ha:PySem.W.findIn K (.ref D) "__class__" = some (some (.builtin "object.__class__"))
 hn:PySem.W.specialIn K (.builtin "object.__class__") "__get__" = some (some (.builtin "getset_descriptor.__get__"))
 ht:PySem.W.takesIn K (.builtin "object.__class__")=some true
 hm:PySem.W.mroIn K D (.type "object")=some true
 hb:PySem.W.mroIn K D (.type "BaseException")=some true
theorem find_cls {K:W.Frag} {D:Addr} (E:ErrCls K D) (od:Option Obj):PySem.W.findObj K D od "__class__" = some (.bind (.builtin "getset_descriptor.__get__") (.builtin "object.__class__")):=by
 obtain ⟨cd,hc⟩:=Option.isSome_iff_exists.mp E.hc
 unfold PySem.W.findObj
 rw [hc]
 simp [E.ha,E.hn,E.ht]
section
variable {prog:Program} {w:World} {A:Around} {E:Value->Shared->Prop} {s:Shared} {K:W.Frag} {x D:Addr} {ox:Obj}
theorem exc_check {M:Model} {nameV:Value} {Q:Unit->Shared->Prop} (Er:ErrCls K D) (X:K.In s.heap) (I:PySem.W.InstAt s.heap x ox D none) (hq:Q () s) :
  wpAny M A (checkBuiltinCall "BaseException.__getattribute__" ⟨[.ref x,nameV],[]⟩) Q E s:=by
 have hk:builtinKind "BaseException.__getattribute__" = some .slot:=by decide +kernel
 have hsplit:splitId "BaseException.__getattribute__" = some ("BaseException","__getattribute__"):=by decide +kernel
 have ha:=F.args_bexc_ga (.ref x) nameV
 have L0:=I.type (M:=M)
 have L1:=PySem.W.looks_mroIn (M:=M) X Er.hb
 have LI:PySem.W.Looks M s.heap (isInstance (.ref x) (.type "BaseException")) true:=L0.andThen L1
 obtain ⟨h,g,d,t,os⟩:=s
 simp only [checkBuiltinCall,hk,hsplit]
 refine wpAny_bind (LI.at ?_)
 repeat (any_goals (first | assumption | wp_step))
theorem exc_entry {tk:Tok} {Q:Fin->Shared->Prop} (Er:ErrCls K D) (X:K.In s.heap) (I:PySem.W.InstAt s.heap x ox D none) (hq:Q (.done (.ret (.ref D))) s) :
  wpAny (model prog w) A (Builtin.«object.__getattribute__» ⟨[.ref x,.str "__class__" tk],[]⟩) Q E s:=by
 obtain ⟨h,g,d,t,os⟩:=s
 have L0:=I.type (M:=model prog w)
 have L1:=PySem.W.looks_find (M:=model prog w) X I (find_cls Er none)
 unfold Builtin.«object.__getattribute__»
 refine wpAny_bind (wpAny_of_eq (a:=(.ref x,[.str "__class__" tk])) (by rfl) ?_)
 dsimp only
 refine wpAny_bind (wpAny_pure (wpAny_bind (L0.at (wpAny_bind (L1.at ?_)))))
 show wpAny _ _ (Builtin.ObjectAttr.bindTo (.builtin "getset_descriptor.__get__") (.builtin "object.__class__") (.ref x) (.ref D)) _ _ _
 unfold Builtin.ObjectAttr.bindTo
 dsimp only
 refine wpAny_bind (wpAny_holding (wpAny_call (PySem.W.class_get (s:=⟨h,g,d,t,os⟩) (ox:=ox) (od:=none) X I Er.hm ?_)))
 exact wpAny_pure hq
theorem exc_call {tk:Tok} {R:Result->Shared->Prop} (Er:ErrCls K D) (X:K.In s.heap) (I:PySem.W.InstAt s.heap x ox D none) (hq:R (.ok (.ret (.ref D))) s) :
  codeAny (model prog w) A (.call (.builtin "BaseException.__getattribute__") ⟨[.ref x,.str "__class__" tk],[]⟩) R s :=
 codeAny_call_builtin F.excAttr_ValueError.ga.plain F.entry_bexc_ga (exc_check Er X I (exc_entry Er X I hq))
theorem exc_class {Q:Option Value->Shared->Prop} (Er:ErrCls K D) (X:K.In s.heap) (I:PySem.W.InstAt s.heap x ox D none) (hq:Q (some (.ref D)) { s with toks:=s.toks + 1 }):wpAny (model prog w) A (getAttr? (.ref x) "__class__") Q E s:=by
 obtain ⟨h,g,d,t,os⟩:=s
 have L0:=I.type (M:=model prog w)
 have L1:=PySem.W.looks_findIn (M:=model prog w) X Er.ga
 have L2:=PySem.W.looks_findIn (M:=model prog w) X Er.gh
 have f3:=F.excAttr_ValueError.ga.bind (.ref x)
 unfold getAttr? getAttrBy? getAttrBy
 refine wpAny_bind (wpAny_mkText (wpAny_bind (wpAny_attempt (wpAny_holding (wpAny_bind (L0.at (wpAny_bind (L1.at ?_))))))))
 have hx2:(onTheHeap (Value.ref D) && Value.builtin "BaseException.__getattribute__" == Value.builtin "object.__getattribute__")=false:=by
  have hx1:(Value.builtin "BaseException.__getattribute__" == Value.builtin "object.__getattribute__")=false:=by decide +kernel
  rw [hx1,Bool.and_false]
 dsimp only
 rw [hx2,if_neg Bool.false_ne_true]
 unfold getAttrByItsOwn hookBefore
 refine wpAny_bind ?_
 rw [if_pos (by rfl)]
 refine L2.at ?_
 refine wpAny_bind (wpAny_attempt (wpAny_holding ?_))
 unfold callGetattribute
 rw [if_neg (by decide)]
 unfold boundAndCalled
 refine wpAny_bind ?_
 rw [f3]
 refine wpAny_pure ?_
 refine wpAny_call (exc_call (s:=⟨h,g,d,t + 1,os⟩) Er X I ?_)
 exact PySem.W.handed_on rfl (wpAny_pure hq)
end
theorem isType_cls {K:W.Frag} {D:Addr} {M:Model} {h:Heap} (X:K.In h) (hc:(PySem.W.clsIn K D).isSome=true):PySem.W.Looks M h (isType (.ref D)) true:=by
 obtain ⟨cd,hc⟩:=Option.isSome_iff_exists.mp hc
 unfold PySem.W.clsIn at hc
 split at hc
 ·next ho =>
  intro A Q E s k q
  unfold isType loadHead
  exact wpAny_bind (wpAny_loadPart (k _ _ (X _ _ ho)) (wpAny_pure q))
 ·cases hc
theorem kitx_exc {K:W.Frag} {x D:Addr} {ox:Obj} (Er:ErrCls K D):PySem.W.KitX K (.ref x) (.ref D) (fun h=>PySem.W.InstAt h x ox D none) where
 ty:=fun _ _ _ I=>I.type
 it:=fun _ _ X _=>isType_cls X Er.hc
 ne:=fun h tp dd its n sl X htp=>by
  obtain ⟨cd,hc⟩:=Option.isSome_iff_exists.mp Er.hc
  refine Bool.eq_false_iff.mpr fun q => ?_
  have e:D=tp:=Value.ref.inj (beq_iff_eq.mp q)
  subst e
  unfold PySem.W.clsIn at hc
  split at hc
  ·next ho =>
   have z:=(X _ _ ho).symm.trans htp
   cases z
  ·cases hc
 ca:=fun X I k=>exc_class Er X I k
section
variable {X:Cx}
theorem zaQ:CallR X (.builtin "isinstance") (fun xs H Q=>∃ (e C D:Addr) (oe:Obj) (b:Bool),xs = [.ref e,.ref C]/\((e,oe)∈X.pn/\(oe.cls = .ref D/\oe.dict=none)/\∃ vs,oe.data = .fields vs)/\ErrCls X.K D/\PySem.W.kitOne X.K (.ref D) (.ref C)=some b/\Q (.bl b) H):=by
 intro pins s σ H xs us Q I r h
 obtain ⟨e,C,D,oe,b,rfl,⟨hp,⟨hc,hd⟩,vs,hv⟩,Er,hk,q⟩:=h
 obtain ⟨u,u',rfl,ru,ru'⟩:=zht r
 cases (show u=Value.ref e from ru)
 cases (show u'=Value.ref C from ru')
 have ia:PySem.W.InstAt s.heap e oe D none:=⟨(I.pin (e,oe) (List.mem_append_left _ hp)).1,hc,by unfold PySem.W.notCls; rw [hv],by rw [hd]; trivial⟩
 exact PySem.W.kia_one (kitx_exc (ox:=oe) Er) I.kIn ia hk (fun z=>nomatch z) fun tk=>⟨.bl b,H,I.tok _,rfl,q⟩
end
structure Err (K:W.Frag) (mg:Str->Option Value) (x:Str) (C:Addr):Prop where
 bound:mg x=some (.ref C)
 exc:PySem.W.excIn K C [.type "ValueError",.type "Exception",.type "BaseException",.type "object"] "ValueError.__new__" = true
theorem err_obj {K:W.Frag} {h:Heap} {C:Addr} {bmB:List Value} {newId:String} (X:K.In h) (q:PySem.W.excIn K C bmB newId=true) :
  ∃ bm N nm q bs hdct sn sub ab col dd k0 k1 k2 k3 k5 mN,h.get? C=some (excClassObj nm q C N bs bm hdct sn sub ab col dd k0 k1 k2 k3 k5 newId)/\h.Ns N mN/\mN "__init__" = none/\OwnTail h bmB bm:=by
 unfold PySem.W.excIn at q
 split at q
 ·next dd cd sl ho =>
  split at q
  ·next C' bm k0 k1 k2 k3 n k5 hm hs =>
   simp only [Bool.and_eq_true,beq_iff_eq,Bool.not_eq_true'] at q
   obtain ⟨⟨⟨⟨⟨r1,r2⟩,hdel⟩,ht⟩,hok⟩,hni⟩:=q
   subst r1 r2
   cases cd with
   | mk nm bs mro ns qn hd sn sub ab col del =>
    dsimp only at hm hdel hok hni
    subst hm hdel
    cases sl with
    | mk l =>
     simp only at hs
     subst hs
     exact ⟨bm,ns,nm,qn,bs,hd,sn,sub,ab,col,dd,k0,k1,k2,k3,k5,_,X _ _ ho,.of_isNs (PySem.W.isNs_of_in X hok),PySem.W.nsMap_none_of_in X hok hni,PySem.W.tail_of_in X ht⟩
  ·cases q
 ·cases q
noncomputable def tRaise (E:XK) (C:Addr) (ta:TA):TS:=fun _ σ H=>ta σ H fun vs H1=>vs.length<=sizeLine/\E (.ref C) none H1
section
variable {P:Program} {w:World} {K:W.Frag} {mg:Str->Option Value} {base:Heap} {N:List Str} {qual:Str} {scope:Scope} {f:Addr} {cd:Value} {A:Around} {outer:List Env} {s₀ : Shared} {H₀ : Hp} {E:XK}
theorem zbb {x:Str} {C:Addr} {np cpos pos:Pos} {e:Expr} {es:List Expr} {t:TA} (O:Err K mg x C) (hg:Gl (cxOf (CX1 P w) P w K mg base N qual scope f cd A outer s₀ H₀ E) x)
  (ha:PA (cxOf (CX1 P w) P w K mg base N qual scope f cd A outer s₀ H₀ E) (e :: es) t) (hd:(x == ("__debug__" : Str))=false:=by decide)
  (he:starEach (e :: es) (envOfC qual scope s₀.heap.objs.size f cd)=(false,eval e (envOfC qual scope s₀.heap.objs.size f cd)) :: starEach es (envOfC qual scope s₀.heap.objs.size f cd):=by rfl)
  (hpl:(backTo cpos (starEach es (envOfC qual scope s₀.heap.objs.size f cd))).any (·.1)=false:=by rfl) :
  PS (cxOf (CX1 P w) P w K mg base N qual scope f cd A outer s₀ H₀ E) (.Raise (some (.Call (.Name x np) (e :: es) [] cpos)) none pos) (tRaise E C t):=by
 intro pins s σ H D I h
 obtain ⟨bm,Nn,nm,q,bs,hdct,sn,sub,ab,col,dd,k0,k1,k2,k3,k5,mN,hC,hN,hni,T⟩:=err_obj I.ok.mod.kin O.exc
 refine wpAny_Raise_call_subT (C:=C) (nm:=nm) (q:=q) (N:=Nn) (bs:=bs) (bm:=bm) (hdct:=hdct) (sn:=sn) (sub:=sub) (ab:=ab) (col:=col) (dd:=dd) (k0:=k0) (k1:=k1) (k2:=k2) (k3:=k3) (k5:=k5) (env:=envOfC qual scope s₀.heap.objs.size f cd)
  F.excBase_ValueError (mN:=mN) (T.hasType F.excBase_ValueError.hasBase) (I.ok.hd rfl) ?_ hni (zcJ I hg O.bound ⟨rfl,?_⟩ hd)
 ·rw [he]
  show (false || (backTo cpos (starEach es (envOfC qual scope s₀.heap.objs.size f cd))).any (·.1))=false
  rw [hpl]; rfl
 ·have g:=ha cpos pins s σ H _ I h
  change wpAny _ _ (spliced (backTo cpos (starEach (e :: es) (envOfC qual scope s₀.heap.objs.size f cd)))) _ _ s at g
  rw [he] at g ⊢
  refine Calls.evalArgs_plain (thn g fun us s2 ⟨vs,H1,I1,r,hl,q⟩ => ?_)
  exact ⟨rfl,by rw [<- r.length]; exact hl,I1.bk _ _ hC,hN.keeps I1.bk,T.keeps I1.bk,fun h' x hx=>raise_out I1 hx rfl I1.bare q⟩
end
structure Callee1 (P:Program) (w:World) (K:W.Frag) (mg:Str->Option Value) (base:Heap) (x:Str) (k:Nat) (ps:List Str) (sp:Sp):Prop where
 ex:∃ f fd,FnOk P w K mg base (CX1 P w) k f fd ps sp/\mg x=some (.ref f)/\PySem.W.keepIn K (.ref f)=true/\Binds K fd ps []
structure MethAt (K:W.Frag) (C:Addr) (cn m:Str) (st:Stmt):Prop where
 ex:∃ f fd,Fun K m (cn ++ Str.ofString "." ++ m) st f fd/\Meth K C m f
structure Method (P:Program) (w:World) (K:W.Frag) (mg:Str->Option Value) (base:Heap) (C:Addr) (m:Str) (CX:CXT) (k:Nat) (ps:List Str) (sp:Sp):Prop where
 ex:∃ f fd,FnOk P w K mg base CX k f fd ps sp/\Meth K C m f/\Binds K fd ps []
section
variable {P:Program} {w:World} {K:W.Frag} {mg:Str->Option Value} {base:Heap}
theorem Fun.ok1 {x qual:Str} {st:Stmt} {f:Addr} {fd:FuncData} {N ps:List Str} {k:Nat} {sp:Sp} (F:Fun K x qual st f fd) (S:FnScope N ps (defScope st)) (len:∀ vs H Q E,sp vs H Q E->vs.length=ps.length)
  (hbody:∀ (cdv:Value) (A:Around) (outer:List Env) (s:Shared) (H:Hp) (vs:List V) (Q:VK) (E:XK),Room k (A.deeper (envOfC qual (defScope st) s.heap.objs.size f cdv))->sp vs H Q E ->
   ∃ t,PSs (cxOf (CX1 P w) P w K mg base N qual (defScope st) f cdv A outer s H E) (defBody st) t/\t { nx:=fun _ H'=>Q .non H',rt:=Q } (start N vs) H):FnOk P w K mg base (CX1 P w) (k + 1) f fd ps sp:=by
 obtain ⟨oc,od,kV,doc,pm,an,cdv,ct,osl,rfl,lk,hcd⟩:=F.ex
 exact zhD lk hcd S len fun A outer s H vs Q E hr hsp=>hbody cdv A outer s H vs Q E hr hsp
theorem DefAt.callee1 {x:Str} {st:Stmt} {N ps:List Str} {k:Nat} {sp:Sp} (D:DefAt K mg x st) (S:FnScope N ps (defScope st))
  (hb:∀ (kV doc pm:Value) (an:Option Addr) (cdv ct:Value) (us:List Value),us.length=ps.length->bindArgs (PySem.W.fnOf x x (defArgs st) (defBody st) (defScope st) .none kV doc pm an cdv ct) ⟨us,[]⟩=pure (ps.zip us))
  (len:∀ vs H Q E,sp vs H Q E->vs.length=ps.length)
  (hbody:∀ (f:Addr) (cdv:Value) (A:Around) (outer:List Env) (s:Shared) (H:Hp) (vs:List V) (Q:VK) (E:XK),Room k (A.deeper (envOfC x (defScope st) s.heap.objs.size f cdv))->sp vs H Q E ->
   ∃ t,PSs (cxOf (CX1 P w) P w K mg base N x (defScope st) f cdv A outer s H E) (defBody st) t/\t { nx:=fun _ H'=>Q .non H',rt:=Q } (start N vs) H):Callee1 P w K mg base x (k + 1) ps sp:=by
 obtain ⟨f,fd,F,m⟩:=D.ex
 exact ⟨f,fd,F.ok1 S len (fun cdv A outer s H vs Q E hr h=>hbody f cdv A outer s H vs Q E hr h),m,F.kp,F.binds hb⟩
theorem MethAt.meth1 {cn m:Str} {C:Addr} {st:Stmt} {N ps:List Str} {k:Nat} {sp:Sp} (D:MethAt K C cn m st) (S:FnScope N ps (defScope st))
  (hb:∀ (kV doc pm:Value) (an:Option Addr) (cdv ct:Value) (us:List Value),us.length=ps.length->bindArgs (PySem.W.fnOf m (cn ++ Str.ofString "." ++ m) (defArgs st) (defBody st) (defScope st) .none kV doc pm an cdv ct) ⟨us,[]⟩=pure (ps.zip us))
  (len:∀ vs H Q E,sp vs H Q E->vs.length=ps.length)
  (hbody:∀ (f:Addr) (cdv:Value) (A:Around) (outer:List Env) (s:Shared) (H:Hp) (vs:List V) (Q:VK) (E:XK),Room k (A.deeper (envOfC (cn ++ Str.ofString "." ++ m) (defScope st) s.heap.objs.size f cdv))->sp vs H Q E ->
   ∃ t,PSs (cxOf (CX1 P w) P w K mg base N (cn ++ Str.ofString "." ++ m) (defScope st) f cdv A outer s H E) (defBody st) t/\t { nx:=fun _ H'=>Q .non H',rt:=Q } (start N vs) H):Method P w K mg base C m (CX1 P w) (k + 1) ps sp:=by
 obtain ⟨f,fd,F,m⟩:=D.ex
 exact ⟨f,fd,F.ok1 S len (fun cdv A outer s H vs Q E hr h=>hbody f cdv A outer s H vs Q E hr h),m,F.binds hb⟩
theorem MethAt.meth0 {cn m:Str} {C:Addr} {st:Stmt} {N ps:List Str} {k:Nat} {sp:Sp} (D:MethAt K C cn m st) (S:FnScope N ps (defScope st))
  (hb:∀ (kV doc pm:Value) (an:Option Addr) (cdv ct:Value) (us:List Value),us.length=ps.length->bindArgs (PySem.W.fnOf m (cn ++ Str.ofString "." ++ m) (defArgs st) (defBody st) (defScope st) .none kV doc pm an cdv ct) ⟨us,[]⟩=pure (ps.zip us))
  (len:∀ vs H Q E,sp vs H Q E->vs.length=ps.length)
  (hbody:∀ (f:Addr) (cdv:Value) (A:Around) (outer:List Env) (s:Shared) (H:Hp) (vs:List V) (Q:VK) (E:XK),Room k (A.deeper (envOfC (cn ++ Str.ofString "." ++ m) (defScope st) s.heap.objs.size f cdv))->sp vs H Q E ->
   ∃ t,PSs (cxOf CX0 P w K mg base N (cn ++ Str.ofString "." ++ m) (defScope st) f cdv A outer s H E).nox (defBody st) t/\t { nx:=fun _ H'=>Q .non H',rt:=Q } (start N vs) H):Method P w K mg base C m CX0 (k + 1) ps sp:=by
 obtain ⟨f,fd,F,m⟩:=D.ex
 exact ⟨f,fd,F.ok S len (fun cdv A outer s H vs Q E hr h=>hbody f cdv A outer s H vs Q E hr h),m,F.binds hb⟩
end
section
variable {X:Cx} {x m:Str} {k:Nat} {ps:List Str} {sp:Sp} {p pos apos:Pos} {o e:Expr} {es:List Expr} {ta:TE} {t:TA} {E:XK} {C:Addr} {CX:CXT}
theorem zbf (F:Callee1 X.prog X.w X.K X.mg X.base x k ps sp) (hr:Room k X.A) (hx:Passes (CX1 X.prog X.w) X E) (hg:Gl X x) (ha:PA X (e :: es) t) (hdb:(x == ("__debug__" : Str))=false:=by decide)
  (he:starEach (e :: es) X.env=(false,eval e X.env) :: starEach es X.env:=by rfl) (hpl:(backTo pos (starEach es X.env)).any (·.1)=false:=by rfl):PE X (.Call (.Name x p) (e :: es) [] pos) (tCall sp [] E t):=by
 obtain ⟨f,fd,F,hm,hk,hb⟩:=F.ex
 exact zgj F hr hg hm hk hb .nil hx ha hdb he hpl
theorem ze0 {pl:Sem Bool} (he:PE X o ta) (c:Cls X.K C) (F:Method X.prog X.w X.K X.mg X.base C m CX k ps sp) (hr:Room k X.A) (hx:Passes CX X E) (ha:PA X (e :: es) t)
  (hst:starEach (e :: es) X.env=(false,eval e X.env) :: starEach es X.env:=by rfl) (hpl:(backTo pos (starEach es X.env)).any (·.1)=false:=by rfl)
  (ht:eval (.Call (.Attribute o m apos) (e :: es) [] pos) X.env=(do
   let ov <- eval o X.env
   standAt apos.atName
   let (f,first) <- holding [ov] (getMethod ov m pl)
   callWith pos f first (backTo pos (starEach (e :: es) X.env)) (backToKw pos (keywordEach [] X.env))):=by rfl) :
  PE X (.Call (.Attribute o m apos) (e :: es) [] pos) (tMeth C m sp [] E ta t):=by
 obtain ⟨f,fd,F,hm,hb⟩:=F.ex
 exact pe_meth he c hm F hr hb .nil hx ha hst hpl ht
theorem pe_mt0 {pl:Sem Bool} (he:PE X o ta) (c:Cls X.K C) (F:Method X.prog X.w X.K X.mg X.base C m CX k ps sp) (hr:Room k X.A) (hx:Passes CX X E)
  (ht:eval (.Call (.Attribute o m apos) [] [] pos) X.env=(do
   let ov <- eval o X.env
   standAt apos.atName
   let (f,first) <- holding [ov] (getMethod ov m pl)
   callWith pos f first (backTo pos (starEach [] X.env)) (backToKw pos (keywordEach [] X.env))):=by rfl) :
  PE X (.Call (.Attribute o m apos) [] [] pos) (tMeth C m sp [] E ta tNil):=by
 obtain ⟨f,fd,F,hm,hb⟩:=F.ex
 exact pe_meth0 he c hm F hr hb .nil hx ht
end
section
variable {X:Cx}
noncomputable def gLst (K:W.Frag) (n:Nat) (t:TGs):TG:=fun v σ H Q=>∃ a xs,v = .ref a/\SqL K H a xs/\xs.length=n/\t xs σ H Q
theorem zfy {es:List Expr} {k:Nat} {t:TGs} {n:Nat} {pos:Pos} (hc:X.calm=true) (h:PGs X es t)
  (hn:(assignEach es X.env).length=n:=by rfl) (hst:(assignEach es X.env).findIdx? (·.1)=none:=by rfl):PG X (.Tuple es k pos) (gLst X.K n t):=by
 intro pins s σ H v u Q I r hw
 obtain ⟨a,xs,e1,hq,hl,hw⟩:=hw
 subst e1
 cases r
 obtain ⟨its,rv,p,hz⟩:=I.list hq
 rw [PyProof.Rows.assign_Tuple]
 refine wpAny_bind (wpAny_standAt ?_)
 unfold unpack
 have hsz:(assignEach es X.env).length=its.toArray.size:=by simp [hn,<- hl,rv.length]
 rw [hsz,hst]
 refine wpAny_bind (wpAny_holding (PySem.W.kun_itemsOf (I.ok.hd hc) p.isList fun h' hx => ?_))
 have I1:Inv X pins σ H { s with heap:=h' }:=I.kept (t':=s.toks) fun b o e=>hx b o (Nat.ne_of_lt (Heap.lt_size e)) e
 exact h pins _ σ H xs _ Q I1 (by simpa using rv) hw
end
mutual
inductive VD (K:W.Frag) (H:Hp):V->PyData->Prop
 | non:VD K H .non .none
 | bl (b:Bool):VD K H (.bl b) (.bool b)
 | int (i:Int):VD K H (.int i) (.int i)
 | str (x:Str):VD K H (.str x) (.str x)
 | lst {a:Addr} {xs:List V} {ds:List PyData}:SqL K H a xs->VDs K H xs ds->VD K H (.ref a) (.list ds)
 | tup {a:Addr} {xs:List V} {ds:List PyData}:SqT K H a xs->VDs K H xs ds->VD K H (.ref a) (.tuple ds)
inductive VDs (K:W.Frag) (H:Hp):List V->List PyData->Prop
 | nil:VDs K H [] []
 | cons {x:V} {d:PyData} {xs:List V} {ds:List PyData}:VD K H x d->VDs K H xs ds->VDs K H (x :: xs) (d :: ds)
end
theorem VDs.map {K:W.Frag} {H:Hp} {α : Type} {f : α -> V} {g : α -> PyData}:∀ {l:List α},(∀ x∈l,VD K H (f x) (g x))->VDs K H (l.map f) (l.map g)
 | [],_ => .nil
 | x :: l,h => .cons (h x List.mem_cons_self) (VDs.map fun y hy=>h y (List.mem_cons_of_mem _ hy))
section
variable {X:Cx} {pins:List (Addr×Obj)} {σ : St} {H:Hp} {s:Shared}
mutual
theorem VD.reads (I:Inv X pins σ H s):∀ {v:V} {d:PyData} {u:Value},VD X.K H v d->RelV v u->∃ as,Reads s.heap u d as
 | _,_,_,.non,r=>by cases r; exact ⟨_,.none⟩
 | _,_,_,.bl b,r=>by cases r; exact ⟨_,.bool b⟩
 | _,_,_,.int i,r=>by obtain ⟨t,rfl⟩:=r; exact ⟨_,.int i t⟩
 | _,_,_,.str x,r=>by obtain ⟨t,rfl⟩:=r; exact ⟨_,.str x t⟩
 | _,_,_,.lst hq hs,r=>by
  cases r
  obtain ⟨its,rv,⟨o,n,e,c,_,d⟩,_⟩:=I.list hq
  obtain ⟨as,ra⟩:=VDs.reads I hs rv
  exact ⟨_,.list e c d (by simpa using ra)⟩
 | _,_,_,.tup hq hs,r=>by
  cases r
  obtain ⟨its,rv,⟨o,e,c,n,d⟩,_⟩:=I.tuple hq
  obtain ⟨as,ra⟩:=VDs.reads I hs rv
  exact ⟨_,.tuple e c d (by simpa using ra)⟩
theorem VDs.reads (I:Inv X pins σ H s):∀ {vs:List V} {ds:List PyData} {us:List Value},VDs X.K H vs ds->Vals vs us->∃ as,ReadsAll s.heap us ds as
 | _,_,_,.nil,r=>by cases r; exact ⟨_,.nil⟩
 | _,_,_,.cons h hs,r=>by
  cases r with
  | cons r rr =>
   obtain ⟨a1,r1⟩:=VD.reads I h r
   obtain ⟨a2,r2⟩:=VDs.reads I hs rr
   exact ⟨_,.cons r1 r2⟩
end
end
section
variable {X:Cx}
noncomputable def rEqD (K:W.Frag) (neg:Bool):R2:=fun x y H Q=>∃ d e,VD K H x d/\VD K H y e/\SeqAt.shaped d=true/\SeqAt.shaped e=true/\Q (.bl (if neg then !PyData.eqv d e else PyData.eqv d e)) H
theorem zfB (hu:X.A.units + 64 < cLine):OpR X (compareOp .Eq) (rEqD X.K false):=by
 intro pins s σ H x y v u Q I rx ry h
 obtain ⟨d,e,hd,he,s1,s2,q⟩:=h
 obtain ⟨a1,r1⟩:=hd.reads I rx
 obtain ⟨a2,r2⟩:=he.reads I ry
 exact eq_dataH r1 r2 s1 s2 hu ⟨.bl _,H,I,rfl,q⟩
theorem op_neD (hu:X.A.units + 64 < cLine):OpR X (compareOp .NotEq) (rEqD X.K true):=by
 intro pins s σ H x y v u Q I rx ry h
 obtain ⟨d,e,hd,he,s1,s2,q⟩:=h
 obtain ⟨a1,r1⟩:=hd.reads I rx
 obtain ⟨a2,r2⟩:=he.reads I ry
 exact ne_dataH r1 r2 s1 s2 hu ⟨.bl _,H,I,rfl,q⟩
theorem zen:∀ {xs:List Str} {us:List Value},StrsAre us xs->Vals (xs.map V.str) us
 | _,_,.nil => .nil
 | _,_,.cons _ t r => .cons ⟨t,rfl⟩ (zen r)
theorem sorted_fin {pins:List (Addr×Obj)} {σ : St} {H:Hp} {s:Shared} {Q:VK} {vs:List Value} {out:Array Value} {ys:List V} (I:Inv X pins σ H s) (hl:ys.length<=sizeLine) (r:Vals ys out.toList)
  (q:Q (.ref (s.heap.objs.size + 1)) (upd H (s.heap.objs.size + 1) (.lst ys))):EP X pins σ Q (.ref (s.heap.objs.size + 1)) { s with heap:=sortedAll s.heap vs out }:=by
 obtain ⟨e,he⟩:=sortedAll_at s.heap vs out
 exact ⟨.ref (s.heap.objs.size + 1),_,I.laid (t':=s.toks) (fun b o=>sortedAll_old) (Nat.le_succ _) (show ObjOk X.prog X.w _ _ _ (.lst ys) from ⟨hl,out.toList,e,r,by simpa using he⟩),rfl,q⟩
theorem call_sortedI:CallR X (.builtin "sorted") (fun xs H Q=>∃ (a:Addr) (ns:List Int),xs = [V.ref a]/\SqL X.K H a (ns.map V.int)/\ns.length < 64/\∀ p (ns':List Int),H p=none->ns'.Perm ns->ns'.Pairwise (· <= ·)->Q (.ref p) (upd H p (.lst (ns'.map V.int)))):=by
 intro pins s σ H xs us Q I r h
 obtain ⟨a,ns,rfl,hq,hb,q⟩:=h
 obtain ⟨u,rfl,ru⟩:=zcS r
 cases ru
 obtain ⟨its,rv,p,hz⟩:=I.list hq
 have hl:ns.length=its.length:=by have:=rv.length; rwa [List.length_map] at this
 refine sorted_ints p.isList (zec rv) (by omega) fun out ns' a1 a2 a3 => ?_
 exact sorted_fin I (by rw [List.length_map,a2.length_eq]; exact Nat.le_trans (Nat.le_of_lt hb) (by decide)) (zcj a1) (q _ ns' (I.hok.fresh (Nat.le_succ _)) a2 a3)
end
theorem zdt:∀ {l:List Value} {ss:List Str},l.length=ss.length->(∀ (j:Nat) (v:Value) (x:Str),l[j]?=some v->ss[j]?=some x->∃ t,v = .str x t)->StrsAre l ss
 | [],[],_,_ => .nil
 | v :: l,x :: ss,hl,h=>by
  obtain ⟨t,rfl⟩:=h 0 v x rfl rfl
  exact .cons _ _ (zdt (by simpa using hl) fun j u y e1 e2=>h (j + 1) u y (by simpa using e1) (by simpa using e2))
theorem KV.get {κ : Type}:∀ {a:List (κ × V)} {b:List (κ × Value)} {i:Nat} {k : κ} {x:Value},KV a b->b[i]?=some (k,x)->∃ v,a[i]?=some (k,v)/\RelV v x
 | [],_,_,_,_,h,e=>by cases h; simp at e
 | (k',v') :: a,_,i,k,x,h,e=>by
  cases h with
  | cons r rr =>
   cases i with
   | zero =>
    simp at e
    obtain ⟨r1,r2⟩:=r
    simp only at r1
    rw [e] at r1 r2
    exact ⟨v',by rw [r1]; rfl,r2⟩
   | succ i=>exact KV.get (i:=i) rr (by simpa using e)
section
variable {X:Cx}
theorem call_sortedD (hc:X.calm=true):CallR X (.builtin "sorted") (fun xs H Q=>∃ (a:Addr) (kvs:List (Key×V)) (ss:List Str),xs = [V.ref a]/\Rd H a (.dK kvs)/\kvs.map (·.1)=ss.map Sum.inr/\ss.length < 64 /\
  ∀ p (ss':List Str),H p=none->ss'.Perm ss->sortedS ss'=true->Q (.ref p) (upd H p (.lst (ss'.map V.str)))):=by
 intro pins s σ H xs us Q I r h
 obtain ⟨a,kvs,ss,rfl,hq,hk,h64,q⟩:=h
 obtain ⟨u,rfl,ru⟩:=zcS r
 cases ru
 obtain ⟨hz,lo,vs,kv,hD⟩:=(show ObjOk X.prog X.w H s.heap a (.dK kvs) from hq.ok I.hok)
 obtain ⟨ep,hat⟩:=hD.dictAt
 have hlen:vs.length=ss.length:=by
  have e1:=kv.length
  have e2:=congrArg List.length hk
  rw [List.length_map,List.length_map] at e2
  omega
 have big64:(64:Nat)<=sizeLine:=by decide
 refine Calls.call_function_entry kind_sorted plain_sorted entry_sorted (args_sorted1 _) ?_
 unfold Builtin.«sorted»
 refine wpAny_bind (m:=checkCount "sorted" 1 1 _) (wpAny_pure ?_)
 refine wpAny_bind (PySem.W.kdu_collect (A:=X.A.in1) (PySem.W.kdl_dict (knd:=mixKind X.prog X.w) (kvs:=vs) (ep:=ep) lo) (I.ok.hd hc) hat (by omega) fun h' tk acc hkeep hacc => ?_)
 have hl:acc.toList.length=vs.length:=by rw [Array.length_toList]; exact hacc.1
 have hS:StrsAre acc.toList ss:=by
  refine zdt (by omega) fun j v x e1 e2 => ?_
  obtain ⟨k,y,e3,hk2⟩:=hacc.2 j v (by rw [<- Array.getElem?_toList]; exact e1)
  obtain ⟨v',e4,_⟩:=kv.get e3
  have e5:(kvs.map (·.1))[j]?=some k:=by rw [List.getElem?_map,e4]; rfl
  rw [hk,List.getElem?_map,e2] at e5
  have e6:Sum.inr x=k:=Option.some.inj e5
  subst e6
  rcases zaF (show keyIs (Sum.inr x) v=true from hk2) with ⟨i,t,e,_⟩ | ⟨y,t,e,e7⟩
  ·cases e
  ·cases e; exact ⟨t,e7⟩
 refine wpAny_bind (wpAny_newList ?_ (by rw [hl]; omega))
 have hoL:(h'.push (seqObj "list" acc.toList.toArray 0)).get? h'.objs.size=some (seqObj "list" acc.toList.toArray 0):=Heap.get?_push_size _ rfl
 refine wpAny_bind (wpAny_holding (wpAny_call_entry slot_list_sort ⟨_,hoL,rfl⟩ entry_list_sort (list_sort_treeK strKind_oneLt hoL hS.keysOf (fun v₁ v₂ rest e=>keyKind_strs (by rw [<- e]; exact hS)) (by omega) fun st' hp hs=>⟨_,rfl,?_⟩) (args_list_sort _)))
 obtain ⟨ss',a1,a2,a3⟩:=sorted_out_str hS hp hs
 refine wpAny_pure ⟨_,rfl,?_⟩
 obtain ⟨e,he⟩:=sortedHeap_at (out:=(arrOf st').map (·.2)) hoL
 have I1:Inv X pins σ H { s with heap:=h',toks:=tk }:=I.kept hkeep
 have I2:=Inv.laid (o := .lst (ss'.map V.str)) (a:=h'.objs.size) (h':=sortedHeap (h'.push (seqObj "list" acc.toList.toArray 0)) h'.objs.size acc.toList ((arrOf st').map (·.2))) (t':=tk) I1 (fun b o hb=>by
  have lt:=Heap.lt_size hb
  rw [sortedHeap_old (Nat.ne_of_lt lt) (by rw [Heap.size_push]; exact Nat.lt_succ_of_lt lt)]
  exact Heap.get?_push_of_some _ hb) (Nat.le_refl _) (show ObjOk X.prog X.w _ _ _ (.lst (ss'.map V.str)) from ⟨by rw [List.length_map,a2.length_eq]; omega,_,e,zen a1,by rw [Array.toArray_toList]; exact he⟩)
 exact ⟨.ref h'.objs.size,_,I2,rfl,q _ ss' (I1.hok.fresh (Nat.le_refl _)) a2 a3⟩
end
section
variable {X:Cx} {pins:List (Addr×Obj)} {σ : St} {H:Hp} {s:Shared} {a:Addr} {kvs:List (Key×V)}
end
section
variable {X:Cx} {tg:Expr}
end
structure HCallee (P:Program) (w:World) (K:W.Frag) (mg:Str->Option Value) (base:Heap) (x:Str) (k:Nat) (ps:List Str) (spf:Addr->Value->Sp):Prop where
 ex:∃ f fd,(∀ (e:Addr) (oe:Obj) (c:Value) (vs:Array Value),oe.cls=c/\oe.dict=none->oe.data = .fields vs->vs[2]?=some .none->FnOkH P w K mg base e oe k f fd ps (spf e c)) /\
  mg x=some (.ref f)/\PySem.W.keepIn K (.ref f)=true/\Binds K fd ps []
theorem DefAt.hcallee {P:Program} {w:World} {K:W.Frag} {mg:Str->Option Value} {base:Heap} {x:Str} {st:Stmt} {N ps:List Str} {k:Nat} {spf:Addr->Value->Sp} (D:DefAt K mg x st) (S:FnScope N ps (defScope st))
  (hb:∀ (kV doc pm:Value) (an:Option Addr) (cdv ct:Value) (us:List Value),us.length=ps.length->bindArgs (PySem.W.fnOf x x (defArgs st) (defBody st) (defScope st) .none kV doc pm an cdv ct) ⟨us,[]⟩=pure (ps.zip us))
  (len:∀ e c vs H Q E,spf e c vs H Q E->vs.length=ps.length)
  (hbody:∀ (f:Addr) (cdv:Value) (A:Around) (outer:List Env) (s:Shared) (H:Hp) (vs:List V) (Q:VK) (e:Addr) (oe:Obj) (c:Value) (ws:Array Value),oe.cls=c/\oe.dict=none->oe.data = .fields ws->QH e oe (cxH P w K mg base N x (defScope st) f cdv A outer s H e oe)->spf e c vs H Q E0 ->
   ∃ t,PSs (cxH P w K mg base N x (defScope st) f cdv A outer s H e oe) (defBody st) t/\t { nx:=fun _ H'=>Q .non H',rt:=Q } (start N vs) H):HCallee P w K mg base x (k + 1) ps spf:=by
 obtain ⟨f,fd,F,m⟩:=D.ex
 have hbi:=F.binds hb
 obtain ⟨oc,od,kV,doc,pm,an,cdv,ct,osl,rfl,lk,hcd⟩:=id F.ex
 exact ⟨f,_,fun e oe c ws hc hd h2=>fn_ofH lk hcd S (len e c) fun A outer s H vs Q hh h=>hbody f cdv A outer s H vs Q e oe c ws hc hd (cxH_q hh hd h2) h,m,F.kp,hbi⟩
section
variable {X:Cx} {f:Str} {k k':Nat} {ps:List Str} {spf:Addr->Value->Sp} {p pos:Pos} {e:Expr} {es:List Expr} {t:TA} {x:Addr} {c:Value} {ox:Obj} {pn:List (Addr×Obj)} {vs:Array Value}
theorem pe_hand (C:HCallee X.prog X.w X.K X.mg X.base f k ps spf) (hr:Room k' X.A) (hx:x ∉ frs X.stack) (hc:ox.cls=c/\ox.dict=none) (hd:ox.data = .fields vs) (h2:vs[2]?=some .none) (hk:k<=k') (hg:Gl X f)
  (ha:PA (cxHand X x ox pn) (e :: es) t) (hdb:(f == ("__debug__" : Str))=false:=by decide)
  (he:starEach (e :: es) X.env=(false,eval e X.env) :: starEach es X.env:=by rfl) (hpl:(backTo pos (starEach es X.env)).any (·.1)=false:=by rfl):PE (cxHand X x ox pn) (.Call (.Name f p) (e :: es) [] pos) (tCall (spf x c) [] E0 t):=by
 obtain ⟨fa,fd,F,m,kp,hb⟩:=C.ex
 exact pe_callH (X:=cxHand X x ox pn) (F x ox c vs hc hd h2) (Room.mark (hr.mono hk)) List.mem_cons_self hx hg m kp hb ha hdb he hpl
end
structure Maker (P:Program) (w:World) (K:W.Frag) (mg:Str->Option Value) (base:Heap) (x:Str) (C:Addr) (CX:CXT) (k:Nat) (ps:List Str) (sp:Sp):Prop where
 ex:∃ f fd,Mk K C f/\FnOk P w K mg base CX k f fd ps sp/\mg x=some (.ref C)/\Binds K fd ps []
theorem pe_mk0 {X:Cx} {x:Str} {C:Addr} {CX:CXT} {k:Nat} {ps:List Str} {sp:Sp} {E:XK} {p pos:Pos} (M:Maker X.prog X.w X.K X.mg X.base x C CX k ps sp) (hr:Room (k + 1) X.A) (hx:Passes CX X E) (hg:Gl X x) (hdb:(x == ("__debug__" : Str))=false:=by decide) :
  PE X (.Call (.Name x p) [] [] pos) (tMake C sp [] E tNil):=by
 obtain ⟨f,fd,M,F,m,b⟩:=M.ex
 exact pe_make0 M F hr hg m b .nil hx hdb
section
variable {Y:Cx}
theorem op_in_seq' (K:W.Frag) (h:Y.K=K):OpR Y (compareOp .In) (rIn K false):=by subst h; exact zc4
theorem op_notIn_seq' (K:W.Frag) (h:Y.K=K):OpR Y (compareOp .NotIn) (rIn K true):=by subst h; exact zbY
theorem zcy (K:W.Frag) (h:Y.K=K):IxR Y (rIxL K):=by subst h; exact zaI
theorem zeb (K:W.Frag) (h:Y.K=K):IxR Y (rIxT K):=by subst h; exact za5
end
noncomputable def isStar:Expr->Bool
 | .Starred _ _=>true
 | _=>false
theorem star_cons {e:Expr} (es:List Expr) (env:Env) (h:isStar e=false):starEach (e :: es) env=(false,eval e env) :: starEach es env:=by
 cases e <;> first | rfl | cases h
structure QA (X:Cx) (es:List Expr) (t:TA):Prop where h:PA X es t
structure QE (X:Cx) (e:Expr) (t:TE):Prop where h:PE X e t
section
variable {X:Cx} {e:Expr} {es:List Expr} {te:TE} {t:TA} {pos:Pos}
theorem qe (h:PE X e te):QE X e te:=⟨h⟩
theorem zaA:QA X [] tNil:=⟨zac⟩
theorem zae (ha:QE X e te) (hr:QA X es t) (h:isStar e=false:=by rfl):QA X (e :: es) (tCons te t):=⟨zaa ha.h hr.h (star_cons es X.env h)⟩
theorem za8 {k} (h:QA X es t):QE X (.Tuple es k pos) (tTup t):=⟨zbR h.h⟩
theorem zbj (h:QA X es t):QE X (.List es pos) (tLst t):=⟨zaU h.h⟩
end
structure QS (X:Cx) (st:Stmt) (t:TS):Prop where h:PS X st t
structure QSs (X:Cx) (st:List Stmt) (t:TS):Prop where h:PSs X st t
section
variable {X:Cx} {st:Stmt} {rest:List Stmt} {t u:TS} {a b e:Expr} {ta tb te:TE} {pos:Pos}
theorem qs (h:PS X st t):QS X st t:=⟨h⟩
theorem zeY (h:QS X st t):QSs X [st] t:=⟨zag h.h⟩
theorem qe_ix {r:R2} (hr:IxR X r) (ha:QE X a ta) (hb:QE X b tb) (hs:PlainIx b):QE X (.Subscript a b pos) (tOp r ta tb):=⟨zaC hr ha.h hb.h hs⟩
theorem zdl {op:Operator} {r:R2} (ho:OpR X (binaryOp op) r) (ha:QE X a ta) (hb:QE X b tb):QE X (.BinOp a op b pos) (tOp r ta tb):=⟨zax ho ha.h hb.h⟩
theorem zaB (h:QS X st t) (hr:QSs X rest u):QSs X (st :: rest) (tSeq t u):=⟨zad h.h hr.h⟩
theorem qss_cut (h:QS X st t) (hr:QSs X rest u):QSs X (st :: rest) (tCut t u):=⟨zcb h.h hr.h⟩
theorem zf9 (h:QE X e te):QS X (.Return (some e) pos) (tRet te):=⟨zaj h.h⟩
theorem za7 {i:Nat} {x:Str} {pos':Pos} (hN:X.N.Nodup) (hi:X.N[i]?=some x) (hx:Loc X.env.scope x) (he:QE X e te) (hs:swapsWith e (some (.Name x pos')) pos.line X.env=pure false:=by rfl) (hf:X.fn x=true\/X.env.scope.names.lookup x=some .local:=by first | exact .inl rfl | exact .inr rfl | assumption) :
  QS X (.Assign [.Name x pos'] e pos) (tAsg te (gName i)):=⟨zan hN hi hx he.h hs hf⟩
end
theorem DefAt.calleeQ {P:Program} {w:World} {K:W.Frag} {mg:Str->Option Value} {base:Heap} {x:Str} {st:Stmt} {N ps:List Str} {k:Nat} {sp:Sp} (D:DefAt K mg x st) (S:FnScope N ps (defScope st))
  (hb:∀ (kV doc pm:Value) (an:Option Addr) (cdv ct:Value) (us:List Value),us.length=ps.length->bindArgs (PySem.W.fnOf x x (defArgs st) (defBody st) (defScope st) .none kV doc pm an cdv ct) ⟨us,[]⟩=pure (ps.zip us))
  (len:∀ vs H Q E,sp vs H Q E->vs.length=ps.length)
  (hbody:∀ (f:Addr) (cdv:Value) (A:Around) (outer:List Env) (s:Shared) (H:Hp) (vs:List V) (Q:VK) (E:XK),Room k (A.deeper (envOfC x (defScope st) s.heap.objs.size f cdv))->sp vs H Q E ->
   ∃ t,QSs (cxOf CX0 P w K mg base N x (defScope st) f cdv A outer s H E).nox (defBody st) t/\t { nx:=fun _ H'=>Q .non H',rt:=Q } (start N vs) H):Callee P w K mg base x (k + 1) ps sp :=
 D.callee S hb len fun f cdv A outer s H vs Q E hr h=>let ⟨t,q,r⟩:=hbody f cdv A outer s H vs Q E hr h; ⟨t,q.h,r⟩
theorem DefAt.hcalleeQ {P:Program} {w:World} {K:W.Frag} {mg:Str->Option Value} {base:Heap} {x:Str} {st:Stmt} {N ps:List Str} {k:Nat} {spf:Addr->Value->Sp} (D:DefAt K mg x st) (S:FnScope N ps (defScope st))
  (hb:∀ (kV doc pm:Value) (an:Option Addr) (cdv ct:Value) (us:List Value),us.length=ps.length->bindArgs (PySem.W.fnOf x x (defArgs st) (defBody st) (defScope st) .none kV doc pm an cdv ct) ⟨us,[]⟩=pure (ps.zip us))
  (len:∀ e c vs H Q E,spf e c vs H Q E->vs.length=ps.length)
  (hbody:∀ (f:Addr) (cdv:Value) (A:Around) (outer:List Env) (s:Shared) (H:Hp) (vs:List V) (Q:VK) (e:Addr) (oe:Obj) (c:Value) (ws:Array Value),oe.cls=c/\oe.dict=none->oe.data = .fields ws->QH e oe (cxH P w K mg base N x (defScope st) f cdv A outer s H e oe)->spf e c vs H Q E0 ->
   ∃ t,QSs (cxH P w K mg base N x (defScope st) f cdv A outer s H e oe) (defBody st) t/\t { nx:=fun _ H'=>Q .non H',rt:=Q } (start N vs) H):HCallee P w K mg base x (k + 1) ps spf :=
 D.hcallee S hb len fun f cdv A outer s H vs Q e oe c ws hc hd hq h=>let ⟨t,q,r⟩:=hbody f cdv A outer s H vs Q e oe c ws hc hd hq h; ⟨t,q.h,r⟩
theorem zbk {X:Cx} {x:Str} {C:Addr} {pos:Pos} (hg:Gl X x) (hm:X.mg x=some (.ref C)) (hd:(x == ("__debug__" : Str))=false:=by decide):PE X (.Name x pos) (tC (.ref C)):=zgh (v := .ref C) hg hm rfl hd
section
variable {K:W.Frag} {C D CE:Addr} {oc:Value} {od:Option Addr} {cd:ClassData} {sl:Array (Option Value)} {b:Bool}
end
theorem zbh {H:Hp} {p l:Addr} {ys:List V} {o:HO} (h:H l=some (.lst ys)) (n:H p=none):upd H p o l=some (.lst ys):=by rw [zah (zaq h n)]; exact h
theorem Same.lstE {H0 H:Hp} (m:Same H0 H) {o:HO} {p:Addr} (n:H p=none):Same H0 (upd H p o)/\upd H p o p=some o:=⟨m.put (m.free n),zaf⟩
theorem zhk {ns:List Int} {k:Int} (h0:0<=k) (h:k < (ns.length:Int)):atI (ns.map V.int) k=some (V.int (ns.getD k.toNat 0)):=by
 have hk:k.toNat < ns.length:=by omega
 have e:((k.toNat:Nat):Int)=k:=by omega
 rw [<- e]
 refine zay ?_
 rw [List.getElem?_map,List.getD_eq_getElem?_getD,Int.toNat_natCast,List.getElem?_eq_getElem hk]
 rfl
theorem getD_big {ns:List Int} {k:Int} (h:¬ k < (ns.length:Int)):ns.getD k.toNat 0=0:=by
 rw [List.getD_eq_getElem?_getD,List.getElem?_eq_none (by omega)]
 rfl
theorem zcE {x:Str}:x.cps.toList.length=x.length:=by simp [Str.length]
theorem zby:1000<=sizeLine:=by decide
theorem big {n:Nat} (h:n<=1000):n<=sizeLine:=Nat.le_trans h zby
theorem bigr {n:Nat} (h:Nat.ble n 1000=true):n<=sizeLine:=big (Nat.le_of_ble_eq_true h)
theorem p2:(0:Int) < 2:=by decide
theorem p6:(0:Int) < 6:=by decide
theorem len_app (x y:Str):(x ++ y).length=x.length + y.length:=by
 have:=congrArg List.length (PySem.W.KT.app_list x y)
 rw [List.length_append,zcE,zcE,zcE] at this
 exact this
theorem zd9 (c:Nat):(⟨#[c]⟩:Str).length=1:=rfl
theorem zhe {a b:Int}:decide (V.int a=V.int b)=decide (a=b):=by
 rw [decide_eq_decide]
 exact ⟨fun h=>by injection h,fun h=>by rw [h]⟩
theorem zbm {i n:Nat} {lo:Int} {x:V} (h:((List.range n).map fun i=>V.int (lo + ((i:Nat):Int)))[i]?=some x):i < n/\x=V.int (lo + ((i:Nat):Int)):=by
 have hi:i < n:=by
  have:=(List.getElem?_eq_some_iff.mp h).1
  simpa using this
 rw [List.getElem?_map,List.getElem?_range hi] at h
 cases h
 exact ⟨hi,rfl⟩
noncomputable def small (c:Nat):Bool:=decide (97<=c) && decide (c<=122)
noncomputable def isName (x:Str):Bool:=(decide (1<=x.length) && decide (x.length<=6)) && x.cps.toList.all small
noncomputable def abc:Str:=Str.ofString "abcdefghijklmnopqrstuvwxyz"
theorem zei:abc.cps.toList=(List.range 26).map (97 + ·):=by decide +kernel
theorem zfb:abc.length=26:=by decide +kernel
theorem abc_at {k:Int} (h0:0<=k) (h:k < 26):∃ c,atI abc.cps.toList k=some c/\small c=true:=by
 have e:((k.toNat:Nat):Int)=k:=by omega
 refine ⟨97 + k.toNat,?_,?_⟩
 ·rw [<- e]
  refine zay ?_
  rw [zei,List.getElem?_map,List.getElem?_range (by omega),Int.toNat_natCast]
  rfl
 ·unfold small
  rw [decide_eq_true (by omega:97<=97 + k.toNat),decide_eq_true (by omega:97 + k.toNat<=122)]
  rfl
theorem zgn {x:Str} (h1:1<=x.length) (h2:x.length<=6) (h3:x.cps.toList.all small=true):isName x=true:=by
 unfold isName
 rw [decide_eq_true h1,decide_eq_true h2,h3]
 rfl
theorem name_one {c:Nat} (h:small c=true):isName ⟨#[c]⟩=true:=zgn (by rw [zd9]; decide) (by rw [zd9]; decide) (by simp [h])
theorem name_len {x:Str} (h:isName x=true):1<=x.length/\x.length<=6:=by
 unfold isName at h
 simp only [Bool.and_eq_true,decide_eq_true_eq] at h
 exact h.1
theorem app_list (x y:Str):(x ++ y).cps.toList=x.cps.toList ++ y.cps.toList:=PySem.W.KT.app_list x y
theorem zd4 {α : Type} [DecidableEq α]:∀ {l m:List α},l.Nodup->(∀ x∈l,x∈m)->l.length<=m.length
 | [],_,_,_=>Nat.zero_le _
 | x :: l,m,hn,h=>by
  have hx:=h x List.mem_cons_self
  have hn:=List.nodup_cons.mp hn
  have ih:=zd4 (m:=m.erase x) hn.2 fun y hy=>(List.mem_erase_of_ne (fun z:y=x=>hn.1 (by rw [<- z]; exact hy))).mpr (h y (List.mem_cons_of_mem _ hy))
  have e:=List.length_erase_of_mem hx
  have:=List.length_pos_of_mem hx
  rw [List.length_cons]
  omega
theorem ze2 (x:Str) (us:List Str):inV (V.str x) (us.map V.str)=decide (x∈us):=by
 unfold inV
 rw [List.any_map,Bool.eq_iff_iff,List.any_eq_true,decide_eq_true_eq]
 constructor
 ·rintro ⟨y,hy,e⟩
  have e':(y == x)=true:=e
  rw [<- eq_of_beq e']; exact hy
 ·intro h
  exact ⟨x,h,beq_self_eq_true x⟩
theorem zeK (us:List Str):(us.map V.str).all flatV=true:=by
 rw [List.all_map,List.all_eq_true]
 intro x _
 rfl
theorem spare_some (us:List Str) (h:us.length<=25):∃ c∈abc.cps.toList,(⟨#[c]⟩:Str) ∉ us:=by
 apply Classical.byContradiction
 intro hn
 have hall:∀ y∈abc.cps.toList.map (fun c=>(⟨#[c]⟩:Str)),y∈us:=fun y hy=>by
  obtain ⟨c,hc,rfl⟩:=List.mem_map.mp hy
  exact Classical.byContradiction fun z=>hn ⟨c,hc,z⟩
 have nd:(abc.cps.toList.map (fun c=>(⟨#[c]⟩:Str))).Nodup:=by
  rw [zei,List.map_map]
  decide +kernel
 have:=zd4 nd hall
 rw [List.length_map,zcE,zfb] at this
 omega
theorem abc_small {c:Nat} (h:c∈abc.cps.toList):small c=true:=by
 rw [zei] at h
 obtain ⟨i,hi,rfl⟩:=List.mem_map.mp h
 have:=List.mem_range.mp hi
 unfold small
 rw [decide_eq_true (by omega:97<=97 + i),decide_eq_true (by omega:97 + i<=122)]
 rfl
theorem zde:∀ (ns acc:List Int),(ns.foldl step_dedup acc).length<=acc.length + ns.length/\(acc.Nodup->((ns.foldl step_dedup acc).length=acc.length + ns.length ↔ (acc ++ ns).Nodup))
 | [],acc=>⟨by simp,fun h=>by simp [h]⟩
 | n :: ns,acc=>by
  rw [List.foldl_cons]
  by_cases hm:n∈acc
  ·have e:step_dedup acc n=acc:=by
    unfold step_dedup
    rw [if_pos (List.any_eq_true.mpr ⟨n,hm,by simp⟩)]
   rw [e]
   have ih:=zde ns acc
   refine ⟨by have:=ih.1; rw [List.length_cons]; omega,fun _=>⟨fun z => ?_,fun z => ?_⟩⟩
   ·have:=ih.1
    rw [List.length_cons] at z
    omega
   ·exact absurd rfl ((List.nodup_append.mp z).2.2 n hm n List.mem_cons_self)
  ·have e:step_dedup acc n=acc ++ [n]:=by
    unfold step_dedup
    rw [if_neg]
    intro z
    obtain ⟨x,hx,ex⟩:=List.any_eq_true.mp z
    have:x=n:=by simpa using ex
    subst this
    exact hm hx
   rw [e]
   have ih:=zde ns (acc ++ [n])
   rw [List.length_append,List.length_singleton,List.append_assoc] at ih
   refine ⟨by have:=ih.1; rw [List.length_cons]; omega,fun h => ?_⟩
   have hn:(acc ++ [n]).Nodup:=by
    refine List.nodup_append.mpr ⟨h,by simp,fun a ha b hb => ?_⟩
    have:b=n:=by simpa using hb
    subst this
    intro z
    subst z
    exact hm ha
   have:=ih.2 hn
   rw [List.length_cons]
   rw [show acc.length + (ns.length + 1)=acc.length + 1 + ns.length by omega]
   exact this
theorem many_eq (ns:List Int):many ns=(ns.foldl step_dedup []).length:=by
 unfold many firstMet
 congr 2
 apply List.ext_getElem?
 intro i
 rw [List.getElem?_map]
 by_cases h:i < ns.length
 ·rw [List.getElem?_range h]
  simp [List.getD_eq_getElem?_getD,h]
 ·rw [List.getElem?_eq_none (by simpa using h),List.getElem?_eq_none (by simpa using h)]
  rfl
theorem many_nodup (ns:List Int):many ns=ns.length ↔ ns.Nodup:=by
 rw [many_eq]
 have:=(zde ns []).2 List.nodup_nil
 simpa using this
noncomputable def inR (t:Int):Bool:=decide (0<=t) && decide (t<=7)
noncomputable def areTeeth (ts:List Int):Bool:=decide (0∈ts) && (decide (many ts=ts.length) && ts.all inR)
theorem in_zero (ts:List Int):inV (V.int 0) (ts.map V.int)=decide (0∈ts):=by
 unfold inV
 rw [List.any_map,Bool.eq_iff_iff,List.any_eq_true,decide_eq_true_eq]
 constructor
 ·rintro ⟨x,hx,e⟩
  have:x=0:=by
   have e':(x == 0)=true:=e
   exact eq_of_beq e'
  rw [<- this]; exact hx
 ·intro h
  exact ⟨0,h,rfl⟩
theorem zhE (ts:List Int):(ts.map V.int).all flatV=true:=by
 rw [List.all_map,List.all_eq_true]
 intro x _
 rfl
noncomputable def KindsL (G:Addr->Prop) (H:Hp):List V->List (Str×List Int)->Prop
 | [],[]=>True
 | v :: vs,k :: ks=>(∃ q t,v = .ref q/\H q=some (.lst [.str k.1,.ref t])/\H t=some (.lst (k.2.map V.int))/\G q/\G t)/\KindsL G H vs ks
 | _,_=>False
theorem KindsL.mono {G G':Addr->Prop} {H H':Hp} (s:∀ a o,G a->H a=some o->H' a=some o) (g:∀ a,G a->G' a):∀ {vs:List V} {ks:List (Str×List Int)},KindsL G H vs ks->KindsL G' H' vs ks
 | [],[],_=>trivial
 | _ :: _,_ :: _,⟨⟨q,t,e,h1,h2,g1,g2⟩,r⟩=>⟨⟨q,t,e,s _ _ g1 h1,s _ _ g2 h2,g _ g1,g _ g2⟩,KindsL.mono s g r⟩
 | [],_ :: _,h=>h.elim
 | _ :: _,[],h=>h.elim
theorem KindsL.same {G:Addr->Prop} {H H':Hp} {vs:List V} {ks:List (Str×List Int)} (s:Same H H') (h:KindsL G H vs ks):KindsL G H' vs ks:=h.mono (fun a o _ e=>s a o e) fun _ g=>g
theorem KindsL.upd {G:Addr->Prop} {H:Hp} {p:Addr} {o:HO} {vs:List V} {ks:List (Str×List Int)} (h:KindsL G H vs ks) (n:¬ G p):KindsL G (upd H p o) vs ks:=h.mono (fun a u g e=>by rw [zah (fun z:a=p=>n (by rw [<- z]; exact g))]; exact e) fun _ g=>g
theorem KindsL.snoc {G:Addr->Prop} {H:Hp} {q t:Addr} {k:Str×List Int} (h1:H q=some (.lst [.str k.1,.ref t])) (h2:H t=some (.lst (k.2.map V.int))) (g1:G q) (g2:G t):∀ {vs:List V} {ks:List (Str×List Int)},KindsL G H vs ks->KindsL G H (vs ++ [.ref q]) (ks ++ [k])
 | [],[],_=>⟨⟨q,t,rfl,h1,h2,g1,g2⟩,trivial⟩
 | _ :: _,_ :: _,⟨a,b⟩=>⟨a,KindsL.snoc h1 h2 g1 g2 b⟩
 | [],_ :: _,x=>x.elim
 | _ :: _,[],x=>x.elim
theorem KindsL.length {G:Addr->Prop} {H:Hp}:∀ {vs:List V} {ks:List (Str×List Int)},KindsL G H vs ks->vs.length=ks.length
 | [],[],_=>rfl
 | _ :: _,_ :: _,⟨_,b⟩=>by rw [List.length_cons,List.length_cons,KindsL.length b]
 | [],_ :: _,x=>x.elim
 | _ :: _,[],x=>x.elim
theorem KindsL.get {G:Addr->Prop} {H:Hp}:∀ {vs:List V} {ks:List (Str×List Int)} {i:Nat} {v:V},KindsL G H vs ks->vs[i]?=some v->∃ k q t,ks[i]?=some k/\v = .ref q/\H q=some (.lst [.str k.1,.ref t])/\H t=some (.lst (k.2.map V.int))
 | [],[],_,_,_,e=>by simp at e
 | _ :: _,k :: _,0,_,⟨⟨q,t,e,h1,h2,_⟩,_⟩,z=>by
  simp at z
  subst z
  exact ⟨k,q,t,rfl,e,h1,h2⟩
 | _ :: _,_ :: _,i + 1,_,⟨_,b⟩,z=>by
  obtain ⟨k,q,t,h⟩:=KindsL.get (i:=i) b (by simpa using z)
  exact ⟨k,q,t,by simpa using h⟩
 | [],_ :: _,_,_,x,_=>x.elim
 | _ :: _,[],_,_,x,_=>x.elim
noncomputable def GT (ts:List Int):Prop:=∃ f:Nat->Bool,ts=((List.range 8).filter f).map (fun i=>((i:Nat):Int))/\f 0=true
structure Drawn (G:Addr->Prop) (H:Hp) (vs:List V) (ks:List (Str×List Int)):Prop where
 rows:KindsL G H vs ks
 nd:(ks.map (·.1)).Nodup
 good:∀ k∈ks,isName k.1=true/\GT k.2
theorem Drawn.same {G:Addr->Prop} {H H':Hp} {vs:List V} {ks:List (Str×List Int)} (d:Drawn G H vs ks) (s:Same H H'):Drawn G H' vs ks:=⟨d.rows.same s,d.nd,d.good⟩
theorem Drawn.upd {G:Addr->Prop} {H:Hp} {p:Addr} {o:HO} {vs:List V} {ks:List (Str×List Int)} (d:Drawn G H vs ks) (n:¬ G p):Drawn G (upd H p o) vs ks:=⟨d.rows.upd n,d.nd,d.good⟩
theorem Drawn.any {G:Addr->Prop} {H:Hp} {vs:List V} {ks:List (Str×List Int)} (d:Drawn G H vs ks):Drawn (fun _=>True) H vs ks:=⟨d.rows.mono (fun _ _ _ e=>e) fun _ _=>trivial,d.nd,d.good⟩
theorem Drawn.snoc {G:Addr->Prop} {H:Hp} {vs:List V} {ks:List (Str×List Int)} {q t:Addr} {k:Str×List Int} (d:Drawn G H vs ks) (h1:H q=some (.lst [.str k.1,.ref t])) (h2:H t=some (.lst (k.2.map V.int))) (g1:G q) (g2:G t) (hn:k.1 ∉ ks.map (·.1)) (hk:isName k.1=true/\GT k.2):Drawn G H (vs ++ [.ref q]) (ks ++ [k]):=by
 refine ⟨KindsL.snoc h1 h2 g1 g2 d.rows,?_,fun x hx => ?_⟩
 ·rw [List.map_append]
  refine List.nodup_append.mpr ⟨d.nd,by simp,fun a ha b hb => ?_⟩
  have e:b=k.1:=by simpa using hb
  rw [e]
  exact fun z=>hn (z ▸ ha)
 ·rcases List.mem_append.mp hx with z | z
  ·exact d.good x z
  ·rw [List.mem_singleton.mp z]; exact hk
noncomputable abbrev Combs:=List (Str×List Int)
noncomputable def cGet (cs:Combs) (x:Str):Option (List Int):=(cs.find? fun c=>decide (c.1=x)).map (·.2)
noncomputable def cPut (cs:Combs) (x:Str) (ts:List Int):Combs:=if (cs.any fun c=>decide (c.1=x))=true then cs.map (fun c=>if c.1=x then (c.1,ts) else c) else cs ++ [(x,ts)]
noncomputable def canon (ts:List Int):List Int:=((List.range 8).filter fun i=>decide (((i:Nat):Int)∈ts)).map fun i=>((i:Nat):Int)
theorem zg5 (f:Nat->Bool):(((List.range 8).filter f).map fun i=>((i:Nat):Int)).Pairwise (· < ·):=by
 rw [List.pairwise_map]
 refine List.Pairwise.sublist List.filter_sublist ?_
 refine List.Pairwise.imp ?_ (List.pairwise_lt_range (n:=8))
 intro a b h
 omega
theorem zeh (ts:List Int):(canon ts).Pairwise (· < ·):=zg5 _
theorem mem_canon {ts:List Int} {t:Int}:t∈canon ts ↔ t∈ts/\0<=t/\t<=7:=by
 unfold canon
 simp only [List.mem_map,List.mem_filter,List.mem_range,decide_eq_true_eq]
 constructor
 ·rintro ⟨i,⟨hi,hm⟩,rfl⟩
  exact ⟨hm,by omega,by omega⟩
 ·rintro ⟨hm,h0,h7⟩
  refine ⟨t.toNat,⟨by omega,?_⟩,by omega⟩
  rwa [show ((t.toNat:Nat):Int)=t by omega]
theorem za4 {l:List Int} (h:l.Pairwise (· < ·)):l.Nodup:=h.imp fun h=>by omega
theorem zch (ts:List Int):(canon ts).Nodup:=za4 (zeh ts)
theorem zbF {a b:List Int} (hp:a.Perm b) (ha:a.Pairwise (· <= ·)) (hb:b.Pairwise (· <= ·)):a=b :=
 hp.eq_of_pairwise (fun x y _ _ h1 h2=>Int.le_antisymm h1 h2) ha hb
theorem zfP {ns ts:List Int} (hp:ns.Perm ts) (hs:ns.Pairwise (· <= ·)) (hn:ts.Nodup) (hr:∀ t∈ts,0<=t/\t<=7):ns=canon ts:=by
 refine zbF (hp.trans ?_) hs ((zeh ts).imp fun h=>by omega)
 rw [List.perm_ext_iff_of_nodup hn (zch ts)]
 intro t
 rw [mem_canon]
 exact ⟨fun h=>⟨h,hr t h⟩,fun h=>h.1⟩
theorem zgx {ts:List Int} (h:GT ts):ts.Pairwise (· < ·):=by
 obtain ⟨f,rfl,_⟩:=h
 exact zg5 f
theorem zdp {ts:List Int} (h:GT ts):∀ t∈ts,0<=t/\t<=7:=by
 obtain ⟨f,rfl,_⟩:=h
 intro t ht
 obtain ⟨i,hi,rfl⟩:=List.mem_map.mp ht
 have:=List.mem_range.mp (List.mem_filter.mp hi).1
 omega
theorem zgw {ts:List Int} (h:GT ts):(0:Int)∈ts:=by
 obtain ⟨f,rfl,h0⟩:=h
 exact List.mem_map.mpr ⟨0,List.mem_filter.mpr ⟨by decide,h0⟩,rfl⟩
theorem gt_canon {ts:List Int} (h0:(0:Int)∈ts):GT (canon ts):=⟨_,rfl,decide_eq_true h0⟩
theorem gt_eq {ts:List Int} (h:GT ts):canon ts=ts:=by
 symm
 refine zfP (List.Perm.refl _) ((zgx h).imp fun h=>by omega) (za4 (zgx h)) (zdp h)
theorem zg9 {ts:List Int} (h:GT ts):ts.length<=8:=by
 obtain ⟨f,rfl,_⟩:=h
 rw [List.length_map]
 exact Nat.le_trans (List.length_filter_le _ _) (by simp)
theorem canon_len (ts:List Int):(canon ts).length<=8:=by
 unfold canon
 rw [List.length_map]
 exact Nat.le_trans (List.length_filter_le _ _) (by simp)
theorem inR_iff {t:Int}:inR t=true ↔ 0<=t/\t<=7:=by unfold inR; simp
theorem teeth_iff {ts:List Int}:areTeeth ts=true ↔ (0:Int)∈ts/\ts.Nodup/\∀ t∈ts,0<=t/\t<=7:=by
 unfold areTeeth
 simp only [Bool.and_eq_true,decide_eq_true_eq,many_nodup,List.all_eq_true,inR_iff]
theorem teeth_len {ts:List Int} (hn:ts.Nodup) (hr:∀ t∈ts,0<=t/\t<=7):ts.length<=8:=by
 have:ts.length<=(canon ts).length:=zd4 hn fun x hx=>mem_canon.mpr ⟨hx,hr x hx⟩
 have:=canon_len ts
 omega
theorem gt_teeth {ts:List Int} (h:GT ts):areTeeth ts=true:=teeth_iff.mpr ⟨zgw h,za4 (zgx h),zdp h⟩
structure Good (cs:Combs):Prop where
 len:cs.length<=8
 nd:(cs.map (·.1)).Nodup
 ok:∀ c∈cs,isName c.1=true/\GT c.2
theorem good_nil:Good []:=⟨by decide,List.nodup_nil,by simp⟩
theorem zee {cs:Combs} {x:Str} {ts:List Int} (h:cGet cs x=some ts):(x,ts)∈cs:=by
 unfold cGet at h
 obtain ⟨c,hc,rfl⟩:=Option.map_eq_some_iff.mp h
 have h1:=List.mem_of_find?_eq_some hc
 have h2:c.1=x:=by simpa using List.find?_some hc
 rw [<- h2]
 exact h1
theorem get_none {cs:Combs} {x:Str}:cGet cs x=none ↔ x ∉ cs.map (·.1):=by
 unfold cGet
 rw [Option.map_eq_none_iff,List.find?_eq_none]
 simp only [decide_eq_true_eq,List.mem_map,not_exists,not_and]
theorem zfa {cs:Combs} {x:Str}:(cs.any fun c=>decide (c.1=x))=(cGet cs x).isSome:=by
 rw [Bool.eq_iff_iff,List.any_eq_true,Option.isSome_iff_ne_none,ne_eq,get_none,Classical.not_not,List.mem_map]
 simp
theorem zcV {c:Str×List Int} {cs:Combs} {x:Str}:cGet (c :: cs) x=if c.1=x then some c.2 else cGet cs x:=by
 unfold cGet
 rw [List.find?_cons]
 by_cases h:c.1=x
 ·simp [h]
 ·simp [h]
theorem zga {cs:Combs} {x:Str} {ts:List Int} (h:cGet cs x=none):cPut cs x ts=cs ++ [(x,ts)]:=by
 unfold cPut
 rw [zfa,h]
 rfl
theorem zeZ {cs:Combs} {x:Str} {ts us:List Int} (h:cGet cs x=some us):cPut cs x ts=cs.map (fun c=>if c.1=x then (c.1,ts) else c):=by
 unfold cPut
 rw [zfa,h]
 rfl
theorem put_keys {cs:Combs} {x:Str} {ts us:List Int} (h:cGet cs x=some us):(cPut cs x ts).map (·.1)=cs.map (·.1):=by
 rw [zeZ h,List.map_map]
 apply List.map_congr_left
 intro c _
 show (if c.1=x then (c.1,ts) else c).1=c.1
 split <;> rfl
theorem Good.put {cs:Combs} {x:Str} {ts:List Int} (g:Good cs) (hx:isName x=true) (ht:GT ts) (hl:cs.length < 8\/(cGet cs x).isSome=true):Good (cPut cs x ts):=by
 cases e:cGet cs x with
 | none =>
  rw [zga e]
  refine ⟨?_,?_,?_⟩
  ·rw [e] at hl
   rw [List.length_append,List.length_singleton]
   rcases hl with h | h
   ·omega
   ·cases h
  ·rw [List.map_append]
   exact zgm g.nd (get_none.mp e)
  ·intro c hc
   rcases List.mem_append.mp hc with h | h
   ·exact g.ok c h
   ·rw [List.mem_singleton.mp h]; exact ⟨hx,ht⟩
 | some us =>
  refine ⟨?_,by rw [put_keys e]; exact g.nd,?_⟩
  ·rw [zeZ e,List.length_map]; exact g.len
  ·rw [zeZ e]
   intro c hc
   obtain ⟨c0,h0,rfl⟩:=List.mem_map.mp hc
   split
   ·exact ⟨(g.ok c0 h0).1,ht⟩
   ·exact g.ok c0 h0
noncomputable def KvR (G:Addr->Prop) (H:Hp):List (Key×V)->Combs->Prop:=Paired fun kv c=>∃ t,kv=(Sum.inr c.1,V.ref t)/\H t=some (.lst (c.2.map V.int))/\G t
noncomputable def DictR (G:Addr->Prop) (H:Hp) (d:Addr) (cs:Combs):Prop:=G d/\∃ kvs,H d=some (.dK kvs)/\KvR G H kvs cs
theorem KvR.mono {G G':Addr->Prop} {H H':Hp} {kvs:List (Key×V)} {cs:Combs} (s:∀ a o,G a->H a=some o->H' a=some o) (g:∀ a,G a->G' a) (h:KvR G H kvs cs):KvR G' H' kvs cs :=
 Paired.mono (fun _ _ ⟨t,e,h1,g1⟩=>⟨t,e,s _ _ g1 h1,g _ g1⟩) h
theorem DictR.mono {G G':Addr->Prop} {H H':Hp} {d:Addr} {cs:Combs} (s:∀ a o,G a->H a=some o->H' a=some o) (g:∀ a,G a->G' a) (h:DictR G H d cs):DictR G' H' d cs :=
 let ⟨g0,kvs,e,r⟩:=h
 ⟨g _ g0,kvs,s _ _ g0 e,r.mono s g⟩
theorem KvR.keys {G:Addr->Prop} {H:Hp}:∀ {kvs:List (Key×V)} {cs:Combs},KvR G H kvs cs->kvs.map (·.1)=(cs.map (·.1)).map Sum.inr
 | _,_,.nil=>rfl
 | _,_,.cons ⟨t,e,_⟩ r=>by
  subst e
  show _ :: _=_ :: _
  rw [show List.map _ _=_ from KvR.keys r]
theorem KvR.val {G:Addr->Prop} {H:Hp} {x:Str}:∀ {kvs:List (Key×V)} {cs:Combs},KvR G H kvs cs ->
  (cGet cs x=none/\valV kvs (Sum.inr x)=none)\/∃ ts t,cGet cs x=some ts/\valV kvs (Sum.inr x)=some (.ref t)/\H t=some (.lst (ts.map V.int))/\G t
 | _,_,.nil => .inl ⟨rfl,rfl⟩
 | _,_,.cons (b:=c) ⟨t,e,h1,g1⟩ r=>by
  subst e
  by_cases h:c.1=x
  ·refine .inr ⟨c.2,t,by rw [zcV,if_pos h],zck (by rw [h]),h1,g1⟩
  ·have hn:¬ ((Sum.inr c.1:Key)=Sum.inr x):=fun z=>h (Sum.inr.inj z)
   rcases KvR.val (x:=x) r with ⟨e1,e2⟩ | ⟨ts,t',e1,e2,e3⟩
   ·exact .inl ⟨by rw [zcV,if_neg h]; exact e1,by rw [zb1 hn]; exact e2⟩
   ·exact .inr ⟨ts,t',by rw [zcV,if_neg h]; exact e1,by rw [zb1 hn]; exact e2,e3⟩
theorem KvR.some {G:Addr->Prop} {H:Hp} {kvs:List (Key×V)} {cs:Combs} {x:Str} (r:KvR G H kvs cs):(valV kvs (Sum.inr x)).isSome=(cGet cs x).isSome:=by
 rcases r.val (x:=x) with ⟨e1,e2⟩ | ⟨ts,t',e1,e2,e3⟩
 ·rw [e1,e2]; rfl
 ·rw [e1,e2]; rfl
theorem KvR.map {G:Addr->Prop} {H:Hp} {x:Str} {t:Addr} {ts:List Int} (h1:H t = .some (.lst (ts.map V.int))) (g1:G t):∀ {kvs:List (Key×V)} {cs:Combs},KvR G H kvs cs ->
  KvR G H (kvs.map fun kv=>if kv.1=Sum.inr x then (kv.1,V.ref t) else kv) (cs.map fun c=>if c.1=x then (c.1,ts) else c)
 | _,_,.nil => .nil
 | _,_,.cons (b:=c) ⟨t',e,h2,g2⟩ r=>by
  subst e
  refine .cons ?_ (KvR.map h1 g1 r)
  dsimp only
  by_cases hx:c.1=x
  ·rw [if_pos hx,if_pos (by rw [hx])]
   exact ⟨t,rfl,h1,g1⟩
  ·rw [if_neg hx,if_neg (fun z=>hx (Sum.inr.inj z))]
   exact ⟨t',rfl,h2,g2⟩
theorem KvR.put {G:Addr->Prop} {H:Hp} {kvs:List (Key×V)} {cs:Combs} {x:Str} {t:Addr} {ts:List Int} (r:KvR G H kvs cs) (h1:H t = .some (.lst (ts.map V.int))) (g1:G t):KvR G H (putK kvs (Sum.inr x) (.ref t)) (cPut cs x ts):=by
 unfold putK cPut
 rw [zbE,zfa,r.some]
 split
 ·exact r.map h1 g1
 ·exact Paired.snoc r ⟨t,rfl,h1,g1⟩
noncomputable abbrev PastR (G:Addr->Prop) (H:Hp):List V->List Combs->Prop:=Paired fun v cs=>∃ d,v = .ref d/\DictR G H d cs
structure Bk (C:Addr) (G:Addr->Prop) (H:Hp) (b l:Addr) (cs:Combs) (past:List Combs):Prop where
 live:∀ x,G x->H x≠none
 nb:¬ G b
 nl:¬ G l
 ins:∃ dx d,H b=some (.ins C dx [("combs",.ref d),("past",.ref l)])/\DictR G H d cs
 lst:∃ vs,H l=some (.lst vs)/\PastR G H vs past
 good:Good cs
 goods:∀ p∈past,Good p
 few:past.length<=300
theorem Bk.move {C:Addr} {G:Addr->Prop} {H H':Hp} {b l:Addr} {cs:Combs} {past:List Combs} (B:Bk C G H b l cs past) (s:∀ a o,G a\/a=b\/a=l->H a=some o->H' a=some o):Bk C G H' b l cs past:=by
 have s':∀ a o,G a->H a=some o->H' a=some o:=fun a o g e=>s a o (.inl g) e
 obtain ⟨dx,d,e1,r1⟩:=B.ins
 obtain ⟨vs,e2,r2⟩:=B.lst
 refine ⟨fun x g => ?_,B.nb,B.nl,⟨dx,d,s _ _ (.inr (.inl rfl)) e1,r1.mono s' fun _ g=>g⟩,⟨vs,s _ _ (.inr (.inr rfl)) e2,?_⟩,B.good,B.goods,B.few⟩
 ·have:=B.live x g
  cases e:H x with
  | none=>exact absurd e this
  | some o=>rw [s' x o g e]; simp
 ·exact Paired.mono (fun _ _ ⟨d,e,r⟩=>⟨d,e,r.mono s' fun _ g=>g⟩) r2
theorem Bk.same {C:Addr} {G:Addr->Prop} {H H':Hp} {b l:Addr} {cs:Combs} {past:List Combs} (B:Bk C G H b l cs past) (s:Same H H'):Bk C G H' b l cs past:=B.move fun a o _ e=>s a o e
theorem Bk.liveB {C:Addr} {G:Addr->Prop} {H:Hp} {b l:Addr} {cs:Combs} {past:List Combs} (B:Bk C G H b l cs past):H b≠none/\H l≠none:=by
 obtain ⟨dx,d,e1,r1⟩:=B.ins
 obtain ⟨vs,e2,r2⟩:=B.lst
 exact ⟨by rw [e1]; simp,by rw [e2]; simp⟩
structure Mv (b l:Addr) (G G':Addr->Prop) (H H':Hp):Prop where
 keep:∀ a o,H a=some o->a≠b->a≠l->H' a=some o
 on:∀ a,H a≠none->H' a≠none
 new:∀ a,G' a->G a\/H a=none
theorem zeB {H H':Hp} (s:Same H H'):∀ a,H a≠none->H' a≠none:=fun a h=>by
 cases e:H a with
 | none=>exact absurd e h
 | some o=>rw [s a o e]; simp
theorem Mv.ofSame {b l:Addr} {G:Addr->Prop} {H H':Hp} (s:Same H H'):Mv b l G G H H':=⟨fun a o e _ _=>s a o e,zeB s,fun _ g => .inl g⟩
theorem Mv.trans {b l:Addr} {G G1 G2:Addr->Prop} {H H1 H2:Hp} (m:Mv b l G G1 H H1) (m':Mv b l G1 G2 H1 H2):Mv b l G G2 H H2:=by
 refine ⟨fun a o e n1 n2=>m'.keep a o (m.keep a o e n1 n2) n1 n2,fun a h=>m'.on a (m.on a h),fun a g => ?_⟩
 rcases m'.new a g with g1 | e
 ·exact m.new a g1
 ·refine .inr ?_
  cases q:H a with
  | none=>rfl
  | some o=>exact absurd e (m.on a (by rw [q]; simp))
noncomputable def Deed (ea:Nat->Addr) (C:Addr) (G:Addr->Prop) (H:Hp) (b l:Addr) (cs:Combs) (past:List Combs) (Q:VK) (E:XK):Except Nat Combs->Prop
 | .error j=>∀ H',Same H H'->E (.ref (ea j)) none H'
 | .ok cs'=>∀ H' G',Mv b l G G' H H'->Bk C G' H' b l cs' (past ++ [cs])->Q (.int ((past.length:Int) + 1)) H'
theorem Deed.from {ea:Nat->Addr} {C:Addr} {G:Addr->Prop} {H H1:Hp} {b l:Addr} {cs:Combs} {past:List Combs} {Q:VK} {E:XK} {r:Except Nat Combs} (d:Deed ea C G H b l cs past Q E r) (s:Same H H1):Deed ea C G H1 b l cs past Q E r:=by
 cases r with
 | error j=>exact fun H' s'=>d H' (s.trans s')
 | ok cs'=>exact fun H' G' m B=>d H' G' ((Mv.ofSame s).trans m) B
noncomputable def full (past:List Combs) (cs':Combs):Except Nat Combs:=if 300<=past.length then .error 9 else .ok cs'
noncomputable def putD (cs:Combs) (past:List Combs) (x:Str) (ts:List Int):Except Nat Combs :=
 if isName x=false then .error 0 else if areTeeth ts=false then .error 1 else if (cGet cs x).isSome=true then .error 2 else if 8<=cs.length then .error 3 else full past (cPut cs x (canon ts))
theorem call_dictD {X:Cx}:CallR X (.type "dict") (fun xs H Q=>∃ a kvs,xs = [V.ref a]/\Rd H a (.dK kvs)/\∀ p,H p=none->Q (.ref p) (upd H p (.dK kvs))):=by
 intro pins s σ H xs us Q I r h
 obtain ⟨a,kvs,rfl,ha,q⟩:=h
 obtain ⟨u,rfl,ru⟩:=zcS r
 cases ru
 exact d_copyOf I ha fun p s' np I'=>⟨.ref p,_,I',rfl,q p np⟩
noncomputable def sle (a b:Str):Prop:=a.cps.toList<=b.cps.toList
theorem sle_iff {a b:Str}:sle a b ↔ ltCps b.cps.toList a.cps.toList=false:=by
 unfold sle
 rw [ltCps_eq,decide_eq_false_iff_not,List.not_lt]
theorem sle_trans {a b c:Str} (h1:sle a b) (h2:sle b c):sle a c:=List.le_trans h1 h2
theorem sle_antisymm {a b:Str} (h1:sle a b) (h2:sle b a):a=b:=by
 have:=List.le_antisymm h1 h2
 cases a; cases b
 simp only at this
 rw [Str.mk.injEq,<- Array.toList_inj]
 exact this
theorem zdC:∀ {l:List Str} {p:Str},risingS p l=true->(p :: l).Pairwise sle
 | [],p,_=>by simp
 | x :: r,p,h=>by
  simp only [risingS,Bool.and_eq_true,Bool.not_eq_true'] at h
  have ih:=zdC h.2
  have hpx:sle p x:=sle_iff.mpr h.1
  refine List.pairwise_cons.mpr ⟨fun y hy => ?_,ih⟩
  rcases List.mem_cons.mp hy with rfl | hm
  ·exact hpx
  ·exact sle_trans hpx ((List.pairwise_cons.mp ih).1 y hm)
theorem zcG {l:List Str} (h:sortedS l=true):l.Pairwise sle:=by
 cases l with
 | nil=>exact List.Pairwise.nil
 | cons x r=>exact zdC h
theorem strs_same {a b:List Str} (hp:a.Perm b) (ha:sortedS a=true) (hb:sortedS b=true):a=b :=
 hp.eq_of_pairwise (fun _ _ _ _ h1 h2=>sle_antisymm h1 h2) (zcG ha) (zcG hb)
theorem atI_int {α : Type} {xs:List α} {k:Int} {v : α} (h0:0<=k) (h:xs[k.toNat]?=some v):atI xs k=some v:=by
 have e:((k.toNat:Nat):Int)=k:=by omega
 rw [<- e]
 exact zay h
noncomputable def errNames:List Str := [Str.ofString "BadName",Str.ofString "BadTeeth",Str.ofString "NameTaken",Str.ofString "BookFull",Str.ofString "NoComb",Str.ofString "BadTooth",Str.ofString "ToothThere",Str.ofString "FirstTooth",Str.ofString "ToothMissing",Str.ofString "DeedsFull",Str.ofString "NothingDone",Str.ofString "BadShape",Str.ofString "BadPlace",Str.ofString "BadLength",Str.ofString "NoFilling"]
noncomputable def errName (j:Nat):Str:=errNames.getD j (Str.ofString "")
noncomputable def valErr:List Value := [.type "ValueError",.type "Exception",.type "BaseException",.type "object"]
noncomputable def clsChk (K:W.Frag) (C:Addr):Bool:=(PySem.W.clsIn K C).isSome && PySem.W.typeIn K (.ref C) == some (.type "type")
noncomputable def errChk1 (K:W.Frag) (l:List Addr) (ce:Addr) (D:Addr) (j:Nat):Bool :=
 (List.range 15).all (fun i=>PySem.W.mroIn K D (.ref (l.getD i 0)) == some (i == j)) && (PySem.W.mroIn K D (.ref ce) == some true &&
 (PySem.W.findIn K (.ref D) "__getattribute__" == some (some (.builtin "BaseException.__getattribute__")) && (PySem.W.findIn K (.ref D) "__getattr__" == some none &&
 (PySem.W.findIn K (.ref D) "__class__" == some (some (.builtin "object.__class__")) && (PySem.W.mroIn K D (.type "object") == some true && (PySem.W.mroIn K D (.type "BaseException") == some true && PySem.W.excIn K D valErr "ValueError.__new__"))))))
noncomputable def errChk (K:W.Frag) (l:List Addr) (ce:Addr) (js:List Nat):Bool :=
 (List.range 15).all (fun i=>clsChk K (l.getD i 0)) && (clsChk K ce && (PySem.W.mroIn K ce (.type "BaseException") == some true &&
 (PySem.W.specialIn K (.builtin "object.__class__") "__get__" == some (some (.builtin "getset_descriptor.__get__")) && (PySem.W.takesIn K (.builtin "object.__class__") == some true && js.all fun j=>errChk1 K l ce (l.getD j 0) j))))
structure KindF (K:W.Frag) (ea:Nat->Addr) (D:Addr) (j:Nat):Prop where
 lt:j < 15
 cls:ErrCls K D
 kit:∀ i,i < 15->PySem.W.kitOne K (.ref D) (.ref (ea i))=some (decide (i=j))
structure EJ (K:W.Frag) (ea:Nat->Addr) (ce:Value) (j:Nat):Prop where
 kf:KindF K ea (ea j) j
 ex:PySem.W.exmOne K (.ref (ea j)) ce=some true
 exc:PySem.W.excIn K (ea j) valErr "ValueError.__new__" = true
theorem zeC {K:W.Frag} {D C:Addr} {b:Bool} (h:clsChk K C=true) (m:PySem.W.mroIn K D (.ref C)=some b):PySem.W.kitCls K (.ref D) (.ref C)=some b:=by
 unfold clsChk at h
 simp only [Bool.and_eq_true,beq_iff_eq] at h
 unfold PySem.W.kitCls
 simp only [h.1,h.2]
 rw [if_pos (by decide)]
 exact m
theorem ej_of {K:W.Frag} {l:List Addr} {ce:Addr} {js:List Nat} {j:Nat} (h:errChk K l ce js=true) (hj:j∈js) (hlt:j < 15):EJ K (fun i=>l.getD i 0) (.ref ce) j:=by
 unfold errChk at h
 simp only [Bool.and_eq_true,beq_iff_eq,List.all_eq_true,List.mem_range] at h
 obtain ⟨h1,h2,h3,h4,h5,h6⟩:=h
 have h7:=h6 j hj
 unfold errChk1 at h7
 simp only [Bool.and_eq_true,beq_iff_eq,List.all_eq_true,List.mem_range] at h7
 obtain ⟨g1,g2,g3,g4,g5,g6,g7,g8⟩:=h7
 have hc:(PySem.W.clsIn K (l.getD j 0)).isSome=true:=by
  have:=h1 j hlt
  unfold clsChk at this
  simp only [Bool.and_eq_true] at this
  exact this.1
 refine ⟨⟨hlt,⟨g3,g4,hc,g5,h4,h5,g6,g7⟩,fun i hi => ?_⟩,?_,g8⟩
 ·have m:=g1 i hi
  unfold PySem.W.kitOne
  by_cases e:i=j
  ·subst e
   rw [if_pos (beq_self_eq_true _),decide_eq_true rfl]
  ·have ne:l.getD j 0≠l.getD i 0:=fun z=>by
    have m2:=g1 j hlt
    rw [<- z] at m
    rw [m] at m2
    simp [e] at m2
   rw [if_neg (fun z=>ne (Value.ref.inj (beq_iff_eq.mp z))),decide_eq_false e]
   have e2:(i == j)=false:=beq_eq_false_iff_ne.mpr e
   rw [e2] at m
   exact zeC (h1 i hi) m
 ·unfold PySem.W.exmOne
  rw [if_pos (by rw [show PySem.W.subIn K (.ref ce) (.type "BaseException")=some true from h3]; rfl)]
  exact zeC h2 g2
theorem EJ.err {K:W.Frag} {mg:Str->Option Value} {ea:Nat->Addr} {ce:Value} {j:Nat} {x:Str} (e:EJ K ea ce j) (hm:mg x=some (.ref (ea j))):Err K mg x (ea j):=⟨hm,e.exc⟩
structure BookAt (K:W.Frag) (C:Addr):Prop where
 cls:Cls K C
 nc:NoAttr K C "combs"
 np:NoAttr K C "past"
noncomputable def bookChk (K:W.Frag) (C:Addr):Bool:=PySem.W.plainGet K C Str.empty && (PySem.W.hasDictIn K C && (PySem.W.plainOver K C && (PySem.W.findIn K (.ref C) "__setattr__" == some (some (.builtin "object.__setattr__")) && (PySem.W.findIn K (.ref C) "combs" == some none && PySem.W.findIn K (.ref C) "past" == some none))))
theorem book_of {K:W.Frag} {C:Addr} (h:bookChk K C=true):BookAt K C:=by
 unfold bookChk at h
 simp only [Bool.and_eq_true,beq_iff_eq] at h
 obtain ⟨h1,h2,h3,h4,h5,h6⟩:=h
 exact ⟨⟨h1,h2,h3,h4⟩,h5,h6⟩
theorem meth_mk {K:W.Frag} {C:Addr} {cn m:Str} {st:Stmt} {f:Addr} {oc:Value} {od an:Option Addr} {osl:Array (Option Value)} {kV doc pm cdv ct:Value} (a:PySem.W.findIn K (.ref C) m=some (some (.ref f)))
  (l:K.lookup f=some ⟨oc,od,.func (PySem.W.fnOf m (cn ++ Str.ofString "." ++ m) (defArgs st) (defBody st) (defScope st) .none kV doc pm an cdv ct),osl⟩) (c:PySem.W.codeIn K cdv (cn ++ Str.ofString "." ++ m)=true) (k:PySem.W.keepIn K (.ref f)=true) (i:PySem.W.isFn K (.ref f)=true):MethAt K C cn m st :=
 ⟨f,_,zgz l c k,a,i,k⟩
structure InitAt (K:W.Frag) (mg:Str->Option Value) (C:Addr) (x qual:Str) (st:Stmt):Prop where
 ex:∃ f fd,Mk K C f/\Fun K "__init__" qual st f fd
 m:mg x=some (.ref C)
theorem init_mk {K:W.Frag} {mg:Str->Option Value} {C:Addr} {x qual:Str} {st:Stmt} {f:Addr} {oc:Value} {od an:Option Addr} {osl:Array (Option Value)} {kV doc pm cdv ct:Value} (hm:mg x=some (.ref C)) (a:PySem.W.findIn K (.ref C) "__init__" = some (some (.ref f)))
  (l:K.lookup f=some ⟨oc,od,.func (PySem.W.fnOf "__init__" qual (defArgs st) (defBody st) (defScope st) .none kV doc pm an cdv ct),osl⟩) (c:PySem.W.codeIn K cdv qual=true) (k:PySem.W.keepIn K (.ref f)=true) (i:PySem.W.isFn K (.ref f)=true) (k2:PySem.W.keepIn K (.ref C)=true) (mk:PySem.W.makesIn K C=true):InitAt K mg C x qual st :=
 ⟨⟨f,_,⟨mk,a,i,k2⟩,zgz l c k⟩,hm⟩
theorem ref_mk {K:W.Frag} {mg:Str->Option Value} {h:Heap} {x:Str} {f:Addr} (X:K.In h) (G:h.Ns mainGlobals mg) (a:PySem.W.nsIn K mainGlobals x=some (some (.ref f))):mg x=some (.ref f):=PySem.W.mg_of X G a
theorem at_last {α : Type} (l:List α) (a : α):atI (l ++ [a]) (-1)=some a:=by
 unfold atI ixN
 rw [if_neg (by decide),if_pos (by rw [List.length_append,List.length_singleton]; omega)]
 have e:((-1:Int) + (((l ++ [a]).length:Nat):Int)).toNat=l.length:=by rw [List.length_append,List.length_singleton]; omega
 rw [e]
 simp
section
variable {X:Cx}
end
section
variable {X:Cx} {T id:String} {name:Str} {r:V->List V->Hp->VK->Prop} {o e:Expr} {es:List Expr} {to:TE} {t:TA} {apos cpos:Pos}
end
noncomputable def pw (t:Int):Int:=2 ^ t.toNat
noncomputable def worth (ts:List Int):Int:=(ts.map pw).sum
noncomputable def aheadOf (n:Int):List Int:=((List.range 7).filter fun d=>n.toNat.testBit d).map fun i=>((i:Nat):Int)
noncomputable def meets (ah ts:List Int):Bool:=ts.any fun t=>decide (t∈ah)
noncomputable def afterOf (ah ts:List Int):List Int:=((canon (ah ++ ts)).filter fun d=>decide (0 < d)).map fun d=>d - 1
theorem zel:worth []=0:=rfl
theorem zaX (t:Int) (ts:List Int):worth (t :: ts)=pw t + worth ts:=rfl
theorem zcL (a b:List Int):worth (a ++ b)=worth a + worth b:=by
 induction a with
 | nil=>simp [worth]
 | cons t a ih=>rw [List.cons_append,zaX,zaX,ih]; omega
theorem worth_perm {a b:List Int} (h:a.Perm b):worth a=worth b:=by
 induction h with
 | nil=>rfl
 | cons x _ ih=>rw [zaX,zaX,ih]
 | swap x y l=>simp only [zaX]; omega
 | trans _ _ h1 h2=>exact h1.trans h2
theorem pw_pos (t:Int):0 < pw t:=by unfold pw; exact Int.pow_pos (by decide)
theorem zfe (ts:List Int):0<=worth ts:=by
 induction ts with
 | nil=>exact Int.le_refl _
 | cons t ts ih=>rw [zaX]; have:=pw_pos t; omega
noncomputable def bitSum (f:Nat->Bool):Nat->Nat
 | 0=>0
 | k + 1=>2 ^ k * (if f k then 1 else 0) + bitSum f k
theorem zci (f:Nat->Bool) (k:Nat):bitSum f (k + 1)=2 ^ k * (if f k then 1 else 0) + bitSum f k:=rfl
theorem zcB (f:Nat->Bool):∀ k,bitSum f k < 2 ^ k
 | 0=>Nat.zero_lt_one
 | k + 1=>by
  have:=zcB f k
  rw [zci]
  rw [Nat.pow_succ]
  cases f k
  ·simp; omega
  ·simp; omega
theorem zbJ (f:Nat->Bool) (i:Nat):∀ k,(bitSum f k).testBit i=(decide (i < k) && f i)
 | 0=>by simp [bitSum]
 | k + 1=>by
  rw [zci,Nat.testBit_two_pow_mul_add _ (zcB f k),zbJ f i k]
  by_cases h:i < k
  ·rw [if_pos h,decide_eq_true h,decide_eq_true (show i < k + 1 by omega)]
  ·rw [if_neg h]
   by_cases e:i=k
   ·subst e
    rw [Nat.sub_self,decide_eq_true (Nat.lt_succ_self i)]
    cases f i <;> rfl
   ·rw [decide_eq_false (show ¬ i < k + 1 by omega),Bool.false_and]
    cases f k
    ·exact Nat.zero_testBit _
    ·show (1:Nat).testBit (i - k)=false
     rw [Bool.eq_false_iff]
     exact fun z=>absurd (Nat.testBit_one_eq_true_iff_self_eq_zero.mp z) (by omega)
theorem zb0 (f:Nat->Bool):∀ k,worth (((List.range k).filter f).map fun i=>((i:Nat):Int))=((bitSum f k:Nat):Int)
 | 0=>rfl
 | k + 1=>by
  rw [List.range_succ,List.filter_append,List.map_append,zcL,zb0 f k,zci]
  cases h:f k
  ·simp [h,worth]
  ·simp only [h,List.filter_cons,List.filter_nil,if_true,List.map_cons,List.map_nil,zaX,zel]
   unfold pw
   rw [Int.toNat_natCast]
   push_cast
   omega
theorem zdh {f:Nat->Bool} {k:Nat} (i:Nat):(worth (((List.range k).filter f).map fun i=>((i:Nat):Int))).toNat.testBit i=(decide (i < k) && f i):=by
 rw [zb0,Int.toNat_natCast,zbJ]
theorem ahead_worth (f:Nat->Bool):aheadOf (worth (((List.range 7).filter f).map fun i=>((i:Nat):Int)))=((List.range 7).filter f).map fun i=>((i:Nat):Int):=by
 unfold aheadOf
 congr 1
 refine List.filter_congr fun i hi => ?_
 rw [zdh,decide_eq_true (List.mem_range.mp hi),Bool.true_and]
theorem zcZ {n:Int} (h0:0<=n) (h1:n < 128):worth (aheadOf n)=n:=by
 unfold aheadOf
 rw [zb0]
 have:bitSum (fun d=>n.toNat.testBit d) 7=n.toNat:=by
  refine Nat.eq_of_testBit_eq fun i => ?_
  rw [zbJ]
  by_cases h:i < 7
  ·rw [decide_eq_true h,Bool.true_and]
  ·rw [decide_eq_false h,Bool.false_and]
   symm
   refine Nat.testBit_lt_two_pow (Nat.lt_of_lt_of_le (show n.toNat < 2 ^ 7 by omega) (Nat.pow_le_pow_right (by decide) (by omega)))
 rw [this]
 omega
theorem mem_ahead {n t:Int}:t∈aheadOf n ↔ 0<=t/\t<=6/\n.toNat.testBit t.toNat=true:=by
 unfold aheadOf
 simp only [List.mem_map,List.mem_filter,List.mem_range]
 constructor
 ·rintro ⟨i,⟨hi,hb⟩,rfl⟩
  exact ⟨by omega,by omega,by simpa using hb⟩
 ·rintro ⟨h0,h6,hb⟩
  exact ⟨t.toNat,⟨by omega,hb⟩,by omega⟩
theorem meets_false {ah ts:List Int}:meets ah ts=false ↔ ∀ t∈ts,t ∉ ah:=by
 unfold meets
 simp [List.any_eq_false]
theorem zeV {n:Int} {ts:List Int} (h0:0<=n) (h1:n < 128) (g:GT ts):Builtin.bitAnd n (worth ts)=0 ↔ meets (aheadOf n) ts=false:=by
 have hb:Builtin.bitAnd n (worth ts)=((n.toNat &&& (worth ts).toNat:Nat):Int):=by
  unfold Builtin.bitAnd
  rw [decide_eq_true h0,decide_eq_true (zfe ts)]
 rw [hb,meets_false]
 obtain ⟨f,rfl,_⟩:=g
 constructor
 ·intro h t ht ha
  obtain ⟨t0,t6,tb⟩:=mem_ahead.mp ha
  obtain ⟨i,hi,rfl⟩:=List.mem_map.mp ht
  obtain ⟨hr,hf⟩:=List.mem_filter.mp hi
  have z:(n.toNat &&& (worth (((List.range 8).filter f).map fun i=>((i:Nat):Int))).toNat)=0:=by omega
  have z:=congrArg (fun m=>m.testBit i) z
  simp only [Nat.testBit_and,zdh,Nat.zero_testBit] at z
  rw [Int.toNat_natCast] at tb
  rw [tb,hf,decide_eq_true (List.mem_range.mp hr)] at z
  exact absurd z (by decide)
 ·intro h
  have z:(n.toNat &&& (worth (((List.range 8).filter f).map fun i=>((i:Nat):Int))).toNat)=0:=by
   refine Nat.eq_of_testBit_eq fun i => ?_
   rw [Nat.testBit_and,zdh,Nat.zero_testBit]
   cases e:n.toNat.testBit i with
   | false=>rfl
   | true =>
    have hi:i < 7:=by
     apply Classical.byContradiction
     intro hn
     have:=Nat.testBit_lt_two_pow (Nat.lt_of_lt_of_le (show n.toNat < 2 ^ 7 by omega) (Nat.pow_le_pow_right (by decide) (show 7<=i by omega)))
     rw [this] at e
     exact absurd e (by decide)
    cases ef:f i with
    | false=>simp
    | true =>
     exfalso
     refine h (i:Int) (List.mem_map.mpr ⟨i,List.mem_filter.mpr ⟨List.mem_range.mpr (by omega),ef⟩,rfl⟩) (mem_ahead.mpr ⟨by omega,by omega,?_⟩)
     rwa [Int.toNat_natCast]
  omega
theorem worth_half (l:List Int) (h:∀ t∈l,0<=t):worth l=2 * worth ((l.filter fun d=>decide (0 < d)).map fun d=>d - 1) + ((l.count 0:Nat):Int):=by
 induction l with
 | nil=>rfl
 | cons t l ih =>
  have ih:=ih fun x hx=>h x (List.mem_cons_of_mem _ hx)
  have t0:=h t List.mem_cons_self
  rw [zaX,List.filter_cons,List.count_cons]
  by_cases e:t=0
  ·subst e
   rw [ih]
   simp [pw]
   omega
  ·have hp:0 < t:=by omega
   have:pw t=2 * pw (t - 1):=by
    unfold pw
    rw [show t.toNat=(t - 1).toNat + 1 by omega,Int.pow_succ]
    omega
   rw [if_pos (decide_eq_true hp),List.map_cons,zaX,this,ih]
   rw [if_neg (by simpa using e)]
   omega
theorem zfR {ah ts:List Int}:∀ d∈afterOf ah ts,0<=d/\d<=6:=by
 intro d hd
 obtain ⟨x,hx,rfl⟩:=List.mem_map.mp hd
 obtain ⟨hc,hp⟩:=List.mem_filter.mp hx
 have:=(mem_canon.mp hc).2
 have:=of_decide_eq_true hp
 omega
theorem zcY (ah ts:List Int):(afterOf ah ts).Pairwise (· < ·):=by
 unfold afterOf
 rw [List.pairwise_map]
 exact ((zeh (ah ++ ts)).sublist List.filter_sublist).imp fun h=>by omega
theorem zdj (n:Int):(aheadOf n).Nodup:=by
 refine za4 ?_
 unfold aheadOf
 rw [List.pairwise_map]
 refine List.Pairwise.sublist List.filter_sublist (List.Pairwise.imp ?_ (List.pairwise_lt_range (n:=7)))
 intro a b h
 omega
theorem zdk {ah ts:List Int} (ha:ah.Nodup) (hr:∀ t∈ah,0<=t/\t<=6) (ht:ts.Nodup) (hr':∀ t∈ts,0<=t/\t<=7) (hm:meets ah ts=false):worth (afterOf ah ts)=(worth ah + worth ts) / 2:=by
 have hn:(ah ++ ts).Nodup:=List.nodup_append.mpr ⟨ha,ht,fun a h1 b h2 e=>meets_false.mp hm b h2 (e ▸ h1)⟩
 have hp:(canon (ah ++ ts)).Perm (ah ++ ts):=by
  rw [List.perm_ext_iff_of_nodup (zch _) hn]
  intro t
  rw [mem_canon]
  refine ⟨fun h=>h.1,fun h=>⟨h,?_⟩⟩
  rcases List.mem_append.mp h with z | z
  ·have:=hr t z; omega
  ·exact hr' t z
 have hw:=worth_half (canon (ah ++ ts)) fun t h=>(mem_canon.mp h).2.1
 rw [worth_perm hp,zcL] at hw
 have hc:=List.nodup_iff_count.mp (zch (ah ++ ts)) 0
 unfold afterOf
 omega
theorem zb4 {n:Int}:∀ t∈aheadOf n,0<=t/\t<=6:=fun t h=>⟨(mem_ahead.mp h).1,(mem_ahead.mp h).2.1⟩
theorem zdq {n:Int} (h0:0<=n):(0:Int)∈aheadOf n ↔ n % 2=1:=by
 rw [mem_ahead]
 have:n.toNat.testBit 0=decide (n.toNat % 2=1):=Nat.testBit_zero _
 rw [show (0:Int).toNat=0 from rfl,this,decide_eq_true_eq]
 omega
noncomputable def stepsOf (cs:Combs) (n:Int):List (Str×Int):=if n % 2=1 then [("",n / 2)] else (cs.filter fun c=>decide (Builtin.bitAnd n (worth c.2)=0)).map fun c=>(c.1,(n + worth c.2) / 2)
noncomputable def goesOf (cs:Combs) (ah:List Int):List (Str×List Int):=if (0:Int)∈ah then [("",afterOf ah [])] else (cs.filter fun c => !meets ah c.2).map fun c=>(c.1,afterOf ah c.2)
theorem zdv {cs:Combs} {n:Int} (h0:0<=n) (h1:n < 128) (g:∀ c∈cs,GT c.2):(goesOf cs (aheadOf n)).map (fun p=>(p.1,worth p.2))=stepsOf cs n:=by
 unfold goesOf stepsOf
 by_cases e:n % 2=1
 ·rw [if_pos e,if_pos ((zdq h0).mpr e),List.map_cons,List.map_nil,zdk (zdj n) zb4 List.nodup_nil (by simp) (by rfl),zcZ h0 h1,zel,Int.add_zero]
 ·rw [if_neg e,if_neg fun z=>e ((zdq h0).mp z),List.map_map]
  have hf:(cs.filter fun c => !meets (aheadOf n) c.2)=cs.filter fun c=>decide (Builtin.bitAnd n (worth c.2)=0):=by
   refine List.filter_congr fun c hc => ?_
   rw [Bool.eq_iff_iff,decide_eq_true_eq,zeV h0 h1 (g c hc),Bool.not_eq_true']
  rw [hf]
  refine List.map_congr_left fun c hc => ?_
  obtain ⟨hc,hz⟩:=List.mem_filter.mp hc
  have gc:=g c hc
  show (c.1,worth (afterOf (aheadOf n) c.2))=_
  rw [zdk (zdj n) zb4 (za4 (zgx gc)) (zdp gc) ((zeV h0 h1 gc).mp (of_decide_eq_true hz)),zcZ h0 h1]
theorem steps_lt {cs:Combs} {n:Int} (h0:0<=n) (h1:n < 128) (g:∀ c∈cs,GT c.2):∀ p∈stepsOf cs n,0<=p.2/\p.2 < 128:=by
 rw [<- zdv h0 h1 g]
 intro p hp
 obtain ⟨q,hq,rfl⟩:=List.mem_map.mp hp
 have:∃ a b,q.2=afterOf a b:=by
  unfold goesOf at hq
  split at hq
  ·rw [List.mem_singleton.mp hq]; exact ⟨_,_,rfl⟩
  ·obtain ⟨c,_,rfl⟩:=List.mem_map.mp hq; exact ⟨_,_,rfl⟩
 obtain ⟨a,b,e⟩:=this
 show 0<=worth q.2/\worth q.2 < 128
 rw [e]
 refine ⟨zfe _,?_⟩
 have hs:afterOf a b=((List.range 7).filter fun i=>decide (((i:Nat):Int)∈afterOf a b)).map fun i=>((i:Nat):Int):=by
  refine zbF ?_ ((zcY a b).imp fun h=>by omega) ?_
  ·rw [List.perm_ext_iff_of_nodup (za4 (zcY a b))]
   ·intro t
    simp only [List.mem_map,List.mem_filter,List.mem_range,decide_eq_true_eq]
    constructor
    ·intro h
     have:=zfR t h
     exact ⟨t.toNat,⟨by omega,by rwa [show ((t.toNat:Nat):Int)=t by omega]⟩,by omega⟩
    ·rintro ⟨i,⟨_,h⟩,rfl⟩
     exact h
   ·refine za4 ?_
    rw [List.pairwise_map]
    refine List.Pairwise.sublist List.filter_sublist (List.Pairwise.imp ?_ (List.pairwise_lt_range (n:=7)))
    intro a b h
    omega
  ·rw [List.pairwise_map]
   refine List.Pairwise.sublist List.filter_sublist (List.Pairwise.imp ?_ (List.pairwise_lt_range (n:=7)))
   intro a b h
   omega
 rw [hs,zb0]
 have:=zcB (fun i=>decide (((i:Nat):Int)∈afterOf a b)) 7
 omega
noncomputable def StepsR (H:Hp):List V->List (Str×Int)->Prop
 | [],[]=>True
 | v :: vs,s :: ss=>(∃ q,v = .ref q/\H q=some (.tup [.str s.1,.int s.2]))/\StepsR H vs ss
 | _,_=>False
theorem StepsR.mono {H H':Hp} (m:∀ q xs,H q=some (.tup xs)->H' q=some (.tup xs)):∀ {vs:List V} {ss:List (Str×Int)},StepsR H vs ss->StepsR H' vs ss
 | [],[],_=>trivial
 | _ :: _,_ :: _,⟨⟨q,e,h⟩,r⟩=>⟨⟨q,e,m q _ h⟩,r.mono m⟩
 | [],_ :: _,x=>x.elim
 | _ :: _,[],x=>x.elim
theorem StepsR.length {H:Hp}:∀ {vs:List V} {ss:List (Str×Int)},StepsR H vs ss->vs.length=ss.length
 | [],[],_=>rfl
 | _ :: _,_ :: _,⟨_,r⟩=>by rw [List.length_cons,List.length_cons,r.length]
 | [],_ :: _,x=>x.elim
 | _ :: _,[],x=>x.elim
theorem StepsR.snoc {H:Hp} {q:Addr} {s:Str×Int} (hq:H q=some (.tup [.str s.1,.int s.2])):∀ {vs:List V} {ss:List (Str×Int)},StepsR H vs ss->StepsR H (vs ++ [.ref q]) (ss ++ [s])
 | [],[],_=>⟨⟨q,rfl,hq⟩,trivial⟩
 | _ :: _,_ :: _,⟨a,r⟩=>⟨a,r.snoc hq⟩
 | [],_ :: _,x=>x.elim
 | _ :: _,[],x=>x.elim
theorem StepsR.get {H:Hp} {i:Nat} {s:Str×Int}:∀ {vs:List V} {ss:List (Str×Int)},StepsR H vs ss->ss[i]?=some s->∃ q,vs[i]?=some (.ref q)/\H q=some (.tup [.str s.1,.int s.2]):=by
 induction i with
 | zero =>
  intro vs ss r e
  match vs,ss,r with
  | [],[],_=>simp at e
  | v :: _,x :: _,⟨⟨q,ev,h⟩,_⟩ =>
   simp at e
   subst e
   exact ⟨q,by rw [ev]; rfl,h⟩
 | succ i ih =>
  intro vs ss r e
  match vs,ss,r with
  | [],[],_=>simp at e
  | v :: vs,x :: ss,⟨_,r⟩ =>
   obtain ⟨q,e1,e2⟩:=ih r (by simpa using e)
   exact ⟨q,by simpa using e1,e2⟩
noncomputable def byNames (cs:Combs) (nm:List Str):Combs:=nm.map fun x=>(x,(cGet cs x).getD [])
theorem byNames_snoc {cs:Combs} {nm:List Str} {x:Str} {ts:List Int} (h:cGet cs x=some ts):byNames cs (nm ++ [x])=byNames cs nm ++ [(x,ts)]:=by
 unfold byNames
 rw [List.map_append,List.map_cons,List.map_nil,h]
 rfl
theorem zdu {cs:Combs} {c:Str×List Int} {n:Int} (h:¬ n % 2=1):stepsOf (cs ++ [c]) n=stepsOf cs n ++ if Builtin.bitAnd n (worth c.2)=0 then [(c.1,(n + worth c.2) / 2)] else []:=by
 unfold stepsOf
 rw [if_neg h,if_neg h,List.filter_append,List.map_append]
 congr 1
 by_cases e:Builtin.bitAnd n (worth c.2)=0
 ·rw [if_pos e,List.filter_cons,if_pos (decide_eq_true e)]
  rfl
 ·rw [if_neg e,List.filter_cons,if_neg (by simpa using e)]
  rfl
theorem steps_nil {n:Int} (h:¬ n % 2=1):stepsOf [] n = []:=by
 unfold stepsOf
 rw [if_neg h]
 rfl
theorem zcn {cs:Combs} {n:Int} (h:n % 2=1):stepsOf cs n = [((Str.ofString "" : Str),n / 2)]:=by
 unfold stepsOf
 exact if_pos h
theorem steps_len {cs:Combs} {n:Int} (h:¬ n % 2=1):(stepsOf cs n).length<=cs.length:=by
 unfold stepsOf
 rw [if_neg h,List.length_map]
 exact List.length_filter_le _ _
theorem in_intS (t:Int) (ts:List Int):inV (V.int t) (ts.map V.int)=decide (t∈ts):=by
 unfold inV
 rw [List.any_map,Bool.eq_iff_iff,List.any_eq_true,decide_eq_true_eq]
 constructor
 ·rintro ⟨x,hx,e⟩
  have:x=t:=by
   have e':(x == t)=true:=e
   exact eq_of_beq e'
  rw [<- this]; exact hx
 ·intro h
  exact ⟨t,h,beq_self_eq_true t⟩
end L2
namespace L2
open PySem PySem.Spec PyProof.Rows PySem.W
structure LtOk (n:Nat) (lt:Nat->Nat->Bool):Prop where
 tr:∀ {a b c},lt a b=true->lt b c=true->lt a c=true
 tot:∀ {a b},a < n->b < n->a≠b->lt a b=false->lt b a=true
 irr:∀ a,lt a a=false
noncomputable abbrev gd (p:Array Nat) (i:Nat):Nat:=p.getD i 0
section
variable {n:Nat} {lt:Nat->Nat->Bool} {cmp:Nat->Nat->(Bool->Shared->Prop)->Shared->Prop} {s:Shared}
variable (L:LtOk n lt) (hc:∀ i j C,i < n->j < n->i≠j->C (lt i j) s->cmp i j C s)
include L hc
omit hc L in
omit hc L in
omit hc L in
end
end L2
namespace L2
open PySem PySem.Spec PyProof.Rows PySem.W
open AutoSeq1 (wpAny_loadPart')
open MeetsSeq MeetsSeq2 MeetsSeq3
section
variable {prog:Program} {w:World} {A:Around} {E:Value->Shared->Prop} {s:Shared}
end
noncomputable def kd (ks:List (Str×List Int)) (i:Nat):Str×List Int:=ks.getD i (Str.ofString "",[])
section
variable {X:Cx}
end
noncomputable def intsChk:List Value->List Int->Bool
 | [],[]=>true
 | .int i _ :: r,k :: s=>decide (i=k) && intsChk r s
 | _,_=>false
theorem zfH:∀ {us:List Value} {ns:List Int},intsChk us ns=true->Vals (ns.map V.int) us
 | [],[],_ => .nil
 | .int i t :: r,k :: s,h=>by
  simp only [intsChk,Bool.and_eq_true,decide_eq_true_eq] at h
  obtain ⟨rfl,h⟩:=h
  exact .cons ⟨t,rfl⟩ (zfH h)
 | [],_ :: _,h=>by cases h
noncomputable def tupChk (K:W.Frag) (a:Addr) (ns:List Int):Bool:=match K.lookup a with
 | some o=>(o.cls == .type "tuple") && match o.data with
  | .seq its _=>intsChk its.toList ns && decide (its.size<=1000)
  | _=>false
 | none=>false
theorem tup_chk {K:W.Frag} {a:Addr} {ns:List Int} (h:tupChk K a ns=true) (H:Hp):SqT K H a (ns.map V.int):=by
 unfold tupChk at h
 split at h
 ·rename_i o e
  rw [Bool.and_eq_true] at h
  obtain ⟨hc,h⟩:=h
  split at h
  ·rename_i its n ed
   rw [Bool.and_eq_true] at h
   exact .inr ⟨o,its,n,e,eq_of_beq hc,ed,big (of_decide_eq_true h.2),zfH h.1⟩
  ·cases h
 ·cases h
end L2
namespace L2
open PySem PySem.Spec PyProof.Rows
theorem zhg {J:It} {Ok:Hp->Prop} {L:List V} {tf:TT} {te:TE} {D:Addr} {σ0 capv:St} {H1:Hp} {Q:VK} (hσ : σ0=none :: capv) (G:Gives J Ok L) (hL:L.length<=sizeLine) (hD:H1 D=none) (hOk:∀ H,Same H1 H->Ok H) (p:Nat->Bool) (Rel:Hp->Nat->V->Prop)
  (hm:∀ H H' i v,Same H H'->Rel H i v->Rel H' i v) (hw:∀ H i v l l',v ≠ .ref D->H D=some (.lst l)->Rel H i v->Rel (upd H D (.lst l')) i v)
  (ht:∀ (i:Nat) x,L[i]?=some x->∀ H R,Same H1 H->(∀ H',Same H H'->R (p i) H')->tf (some x :: capv) H R)
  (he:∀ (i:Nat) x,L[i]?=some x->p i=true->∀ H R,Same H1 H->H D≠none->(∀ H' v,Same H H'->v ≠ .ref D->Rel H' i v->R v H')->te (some x :: capv) H R)
  (hd:∀ H ys,Same H1 H->H D=some (.lst ys)->Paired (fun i y=>y ≠ .ref D/\Rel H i y) ((List.range L.length).filter p) ys->Q (.ref D) H) :
  CompW J D σ0 H1 (gName 0) tf te Q:=by
 subst hσ
 refine zhh G (fun i xs σ H=>(∃ o,σ = o :: capv)/\Same H1 H/\H D=some (.lst xs)/\Paired (fun i y=>y ≠ .ref D/\Rel H i y) ((List.range i).filter p) xs) ⟨⟨none,rfl⟩,Same.new hD,zaf,.nil⟩ (fun i xs σ H _ h=>hOk H h.2.1) ?_ ?_
 ·rintro i x xs σ H hi hx ⟨⟨o,rfl⟩,s,e,hr⟩
  show tf (some x :: capv) H _
  refine ht i x hx H _ s fun H' s' => ?_
  have hxl:xs.length<=i:=by
   rw [<- Paired.length hr]
   exact Nat.le_trans (List.length_filter_le _ _) (by rw [List.length_range]; omega)
  have efil:(List.range (i + 1)).filter p=(List.range i).filter p ++ if p i=true then [i] else []:=by
   rw [List.range_succ,List.filter_append]
   congr 1
   rw [List.filter_cons,List.filter_nil]
  cases hp:p i with
  | true =>
   rw [if_pos rfl]
   refine he i x hx hp H' _ (s.trans s') (by rw [s' _ _ e]; exact nofun) fun H2 v s2 hv rv => ?_
   have e2:=s2 _ _ (s' _ _ e)
   refine CNext.of hi hL e2 hxl ⟨⟨some x,rfl⟩,((s.trans s').trans s2).put hD,zaf,?_⟩
   rw [efil,if_pos hp]
   exact Paired.snoc (Paired.mapP hr fun j y z=>⟨z.1,hw _ _ _ _ _ z.1 e2 (hm _ _ _ _ (s'.trans s2) z.2)⟩) ⟨hv,hw _ _ _ _ _ hv e2 rv⟩
  | false =>
   rw [if_neg Bool.false_ne_true]
   refine CSkip.of (xs:=xs) hi ⟨⟨some x,rfl⟩,s.trans s',s' _ _ e,?_⟩
   rw [efil,if_neg (by rw [hp]; exact Bool.false_ne_true),List.append_nil]
   exact Paired.mapP hr fun j y z=>⟨z.1,hm _ _ _ _ s' z.2⟩
 ·rintro xs σ H ⟨_,s,e,hr⟩
  exact hd H xs s e hr
theorem Paired.at {α β : Type} {R : α -> β -> Prop}:∀ {l:List α} {m:List β} {i:Nat} {x : α},Paired R l m->l[i]?=some x->∃ y,m[i]?=some y/\R x y
 | _,_,i,x,.nil,h=>by simp at h
 | _,_,0,x,.cons h r,e=>by
  simp at e
  subst e
  exact ⟨_,rfl,h⟩
 | _,_,i + 1,x,.cons h r,e=>by
  obtain ⟨y,e1,e2⟩:=Paired.at (i:=i) r (by simpa using e)
  exact ⟨y,by simpa using e1,e2⟩
theorem zcQ {J:It} {Ok:Hp->Prop} {L:List V} {tf:TT} {te:TE} {D:Addr} {σ0 capv:St} {H1:Hp} {Q:VK} (hσ : σ0=none :: capv) (G:Gives J Ok L) (hL:L.length<=sizeLine) (hD:H1 D=none) (hOk:∀ H,Same H1 H->Ok H) (p:Nat->Bool) (F:Nat->V) (hF:∀ i,i < L.length->p i=true->F i ≠ .ref D)
  (ht:∀ (i:Nat) x,L[i]?=some x->∀ H R,Same H1 H->(∀ H',Same H H'->R (p i) H')->tf (some x :: capv) H R)
  (he:∀ (i:Nat) x,L[i]?=some x->p i=true->∀ H R,Same H1 H->(∀ H',Same H H'->R (F i) H')->te (some x :: capv) H R)
  (hd:∀ H,Same H1 H->H D=some (.lst (((List.range L.length).filter p).map F))->Q (.ref D) H) :
  CompW J D σ0 H1 (gName 0) tf te Q:=by
 refine zhg hσ G hL hD hOk p (fun _ i v=>v=F i) (fun _ _ _ _ _ h=>h) (fun _ _ _ _ _ _ _ h=>h) ht (fun i x hx hp H R s _ h=>he i x hx hp H R s fun H' s'=>h H' _ s' (hF i (List.getElem?_eq_some_iff.mp hx).1 hp) rfl) fun H ys s e pr=>hd H s ?_
 rw [e]
 have:∀ {l:List Nat} {m:List V},Paired (fun i y=>y ≠ .ref D/\y=F i) l m->m=l.map F:=by
  intro l m q
  induction q with
  | nil=>rfl
  | cons h _ ih=>rw [List.map_cons,<- ih,h.2]
 rw [this pr]
noncomputable def nmSort (cs:Combs):List Str:=(cs.map (·.1)).mergeSort fun a b=>decide (a.cps.toList<=b.cps.toList)
theorem ze1 (cs:Combs):(nmSort cs).Perm (cs.map (·.1)):=List.mergeSort_perm _ _
theorem zey (cs:Combs):sortedS (nmSort cs)=true:=by
 refine sortedS_of_pairwise _ ?_
 have h:=List.pairwise_mergeSort (le:=fun a b:Str=>decide (a.cps.toList<=b.cps.toList)) (fun a b c h1 h2=>decide_eq_true (List.le_trans (of_decide_eq_true h1) (of_decide_eq_true h2))) (fun a b=>by
  rcases List.le_total a.cps.toList b.cps.toList with h | h
  ·rw [decide_eq_true h]; rfl
  ·rw [decide_eq_true h,Bool.or_true]) (cs.map (·.1))
 exact h.imp fun {a b} h=>sle_iff.mp (show a.cps.toList<=b.cps.toList from of_decide_eq_true h)
noncomputable def srt (cs:Combs):Combs:=byNames cs (nmSort cs)
theorem zcI {cs:Combs} (nd:(cs.map (·.1)).Nodup) {c:Str×List Int} (h:c∈cs):cGet cs c.1=some c.2:=by
 induction cs with
 | nil=>cases h
 | cons d cs ih =>
  rw [zcV]
  rw [List.map_cons,List.nodup_cons] at nd
  rcases List.mem_cons.mp h with rfl | h
  ·exact if_pos rfl
  ·rw [if_neg (fun z:d.1=c.1=>nd.1 (z ▸ List.mem_map.mpr ⟨c,h,rfl⟩))]
   exact ih nd.2 h
theorem by_same {cs ks:Combs} (nd:(cs.map (·.1)).Nodup) (p:ks.Perm cs):byNames cs (ks.map (·.1))=ks:=by
 unfold byNames
 rw [List.map_map]
 conv=>rhs; rw [<- List.map_id ks]
 refine List.map_congr_left fun k hk => ?_
 show (k.1,(cGet cs k.1).getD [])=k
 rw [zcI nd (p.mem_iff.mp hk)]
 rfl
theorem zco {cs:Combs} (nd:(cs.map (·.1)).Nodup):(srt cs).Perm cs:=by
 have h:(byNames cs (nmSort cs)).Perm (byNames cs (cs.map (·.1))):=(ze1 cs).map _
 rw [by_same nd (List.Perm.refl _)] at h
 exact h
noncomputable def stp (C:Combs) (s:Nat):List (Str×Int):=stepsOf C (s:Int)
noncomputable abbrev tr (r:List Bool) (s:Nat):Bool:=r.getD s false
noncomputable def GC (C:Combs):Prop:=∀ c∈C,GT c.2
theorem zbT {C:Combs} (g:GC C) {s:Nat} (h:s < 128) {p:Str×Int} (hp:p∈stp C s):0<=p.2/\p.2.toNat < 128:=by
 have:=steps_lt (n:=(s:Int)) (by omega) (by omega) g p hp
 omega
theorem zbC (lo:Int) (n:Nat):((List.range n).map fun i=>V.int (lo + ((i:Nat):Int))).length=n:=by rw [List.length_map,List.length_range]
theorem at0 {x y:V}:atI [x,y] 0=some x:=show atI [x,y] ((0:Nat):Int)=_ from zay rfl
theorem at1 {x y:V}:atI [x,y] 1=some y:=show atI [x,y] ((1:Nat):Int)=_ from zay rfl
theorem zdV {C:Combs} (h8:C.length<=8) (s:Nat):(stp C s).length<=8:=by
 unfold stp
 by_cases e:(s:Int) % 2=1
 ·rw [zcn e]; exact Nat.le_of_ble_eq_true rfl
 ·exact Nat.le_trans (steps_len e) h8
theorem zhl {α : Type} {ws:List α} {m:Nat} {x : α} (hl:ws.length=m + 1) (h:ws[m]?=some x):atI ws (-1)=some x:=by
 have hne:ws ≠ []:=fun z=>by rw [z] at hl; simp at hl
 have e:ws=ws.dropLast ++ [ws.getLast hne]:=(List.dropLast_concat_getLast hne).symm
 have e2:ws.getLast hne=x:=by
  rw [List.getLast_eq_getElem]
  have:ws[m]?=some (ws[ws.length - 1]'(by omega)):=by rw [List.getElem?_eq_getElem (by omega)]; congr 2; omega
  rw [h] at this
  exact (Option.some.inj this).symm
 rw [e,e2]
 exact at_last _ _
section
variable {X:Cx}
end
theorem zba:∀ (n:Nat) (l:List Nat),l.Nodup->(∀ x∈l,x < n)->l.length<=n
 | 0,[],_,_=>Nat.le_refl _
 | 0,x :: l,_,h=>absurd (h x List.mem_cons_self) (by omega)
 | n + 1,l,nd,h=>by
  by_cases hn:n∈l
  ·have e:=List.length_erase_of_mem hn
   have:=zba n (l.erase n) (nd.erase n) (fun x hx=>by
    have h1:=h x (List.mem_of_mem_erase hx)
    have h2:x≠n:=((List.Nodup.mem_erase_iff nd).mp hx).1
    omega)
   omega
  ·have:=zba n l nd (fun x hx=>by
    have h1:=h x hx
    have h2:x≠n:=fun z=>hn (z ▸ hx)
    omega)
   omega
noncomputable def nx (C:Combs) (row:List Bool) (s:Nat):Option (Str×Int):=(stp C s).find? fun p=>tr row p.2.toNat
noncomputable def LaysR (H:Hp) (vs:List V) (n:Nat->Str) (i:Nat):Prop:=Paired (fun (j:Nat) (v:V)=>∃ q,v = .ref q/\H q=some (.tup [.int (j:Int),.str (n j)])) ((List.range i).filter fun j=>decide (n j≠Str.ofString "")) vs
theorem LaysR.mono {H H':Hp} {vs:List V} {n:Nat->Str} {i:Nat} (m:∀ q xs,H q=some (.tup xs)->H' q=some (.tup xs)) (r:LaysR H vs n i):LaysR H' vs n i:=Paired.mapP r fun _ _ ⟨q,a,b⟩=>⟨q,a,m _ _ b⟩
theorem LaysR.skip {H:Hp} {vs:List V} {n:Nat->Str} {i:Nat} (r:LaysR H vs n i) (h:n i=Str.ofString ""):LaysR H vs n (i + 1):=by
 unfold LaysR
 rw [List.range_succ,List.filter_append,List.filter_cons,if_neg (by simpa using h),List.filter_nil,List.append_nil]
 exact r
theorem LaysR.snoc {H:Hp} {vs:List V} {n:Nat->Str} {i:Nat} {q:Addr} (r:LaysR H vs n i) (h:n i≠Str.ofString "") (hq:H q=some (.tup [.int (i:Int),.str (n i)])):LaysR H (vs ++ [.ref q]) n (i + 1):=by
 unfold LaysR
 rw [List.range_succ,List.filter_append,List.filter_cons,if_pos (by simpa using h),List.filter_nil]
 exact Paired.snoc r ⟨q,rfl,hq⟩
theorem LaysR.len {H:Hp} {vs:List V} {n:Nat->Str} {i:Nat} (r:LaysR H vs n i):vs.length<=i:=by
 rw [<- Paired.length r]
 exact Nat.le_trans (List.length_filter_le _ _) (by rw [List.length_range]; omega)
theorem filter_idx {α : Type} (js:List α) (p : α -> Bool) (d : α):((List.range js.length).filter fun i=>p (js.getD i d)).map (fun i=>js.getD i d)=js.filter p:=by
 induction js with
 | nil=>rfl
 | cons x js ih =>
  rw [List.length_cons,List.range_succ_eq_map,List.filter_cons,List.filter_cons,List.filter_map]
  show _=if p x=true then x :: js.filter p else js.filter p
  have e:List.map (fun i=>(x :: js).getD i d) (List.map Nat.succ (List.filter ((fun i=>p ((x :: js).getD i d)) ∘ Nat.succ) (List.range js.length)))=js.filter p:=by
   rw [List.map_map,<- ih]
   rfl
  by_cases h:p x=true
  ·rw [if_pos (by simpa using h),if_pos h,List.map_cons,e]
   rfl
  ·rw [if_neg (by simpa using h),if_neg h,e]
section
variable {prog:Program} {w:World} {A:Around} {E:Value->Shared->Prop} {s:Shared} {d it:Addr} {o:Obj} {es:Array DictEntry} {ep i:Nat}
end
theorem Paired.rev {α β : Type} {R : α -> β -> Prop}:∀ {l:List α} {m:List β} {i:Nat} {y : β},Paired R l m->m[i]?=some y->∃ x,l[i]?=some x/\R x y
 | _,_,i,x,.nil,h=>by simp at h
 | _,_,0,x,.cons h r,e=>by
  simp at e
  subst e
  exact ⟨_,rfl,h⟩
 | _,_,i + 1,x,.cons h r,e=>by
  obtain ⟨y,e1,e2⟩:=Paired.rev (i:=i) r (by simpa using e)
  exact ⟨y,by simpa using e1,e2⟩
section
variable {X:Cx} {pins:List (Addr×Obj)} {σ : St} {H:Hp} {s:Shared} {a:Addr} {kvs:List (List Key×V)}
end
section
variable {X:Cx} {tg:Expr}
end
section
variable {prog:Program} {w:World} {A:Around} {E:Value->Shared->Prop} {s:Shared} {d:Addr} {o:Obj} {es:Array DictEntry} {ep:Nat}
end
noncomputable def kI (ns:List Int):List Key:=ns.map Sum.inl
theorem kI_V (ns:List Int):(kI ns).map kV=ns.map V.int:=by unfold kI; rw [List.map_map]; rfl
theorem zfG:∀ {a b:List Int},kI a=kI b->a=b
 | [],[],_=>rfl
 | [],_ :: _,h=>by cases h
 | _ :: _,[],h=>by cases h
 | x :: a,y :: b,h=>by
  unfold kI at h
  rw [List.map_cons,List.map_cons] at h
  injection h with h1 h2
  injection h1 with h1
  rw [h1,zfG h2]
section
variable {X:Cx}
end
theorem steps_perm {C C':Combs} (p:C.Perm C') (n:Int):(stepsOf C n).Perm (stepsOf C' n):=by
 unfold stepsOf
 split
 ·exact List.Perm.refl _
 ·exact (p.filter _).map _
noncomputable def akey (s:Nat):List Key:=kI (aheadOf (s:Int))
theorem valV_mem {κ : Type} [DecidableEq κ] {kvs:List (κ × V)} {k : κ}:(valV kvs k).isSome=true ↔ k∈kvs.map (·.1):=by
 rw [<- zbE,List.any_eq_true,List.mem_map]
 constructor
 ·rintro ⟨x,hx,e⟩; exact ⟨x,hx,of_decide_eq_true e⟩
 ·rintro ⟨x,hx,e⟩; exact ⟨x,hx,decide_eq_true e⟩
theorem zfU {κ : Type} [DecidableEq κ]:∀ {kvs:List (κ × V)} {i:Nat} {k : κ} {v:V},(kvs.map (·.1)).Nodup->kvs[i]?=some (k,v)->valV kvs k=some v
 | [],_,_,_,_,h=>by simp at h
 | p :: kvs,0,k,v,nd,h=>by
  simp at h
  subst h
  exact zck rfl
 | p :: kvs,i + 1,k,v,nd,h=>by
  rw [List.map_cons,List.nodup_cons] at nd
  have h':kvs[i]?=some (k,v):=by simpa using h
  rw [zb1 (fun z=>nd.1 (z ▸ List.mem_map.mpr ⟨(k,v),List.mem_of_getElem? h',rfl⟩))]
  exact zfU nd.2 h'
theorem zdL {ks:Combs} {s:Nat} (hs:s < 128) (g:GC ks):(goesOf ks (aheadOf (s:Int))).map (fun p=>(p.1,worth p.2))=stp ks s:=zdv (by omega) (by omega) g
theorem zfJ {ks:Combs} {s:Nat} (hs:s < 128) (g:GC ks) {p:Str×List Int} (hp:p∈goesOf ks (aheadOf (s:Int))):(worth p.2).toNat < 128/\0<=worth p.2/\kI p.2=akey (worth p.2).toNat/\(p.1,worth p.2)∈stp ks s:=by
 have hm:(p.1,worth p.2)∈stp ks s:=by rw [<- zdL hs g]; exact List.mem_map.mpr ⟨p,hp,rfl⟩
 have hlt:=zbT g hs hm
 refine ⟨hlt.2,hlt.1,?_,hm⟩
 have:∃ a b,p.2=afterOf a b:=by
  unfold goesOf at hp
  split at hp
  ·rw [List.mem_singleton.mp hp]; exact ⟨_,_,rfl⟩
  ·obtain ⟨c,_,rfl⟩:=List.mem_map.mp hp; exact ⟨_,_,rfl⟩
 obtain ⟨a,b,e⟩:=this
 unfold akey
 rw [show (((worth p.2).toNat:Nat):Int)=worth p.2 by have:=hlt.1; show _=_; omega]
 congr 1
 rw [e]
 have hs:afterOf a b=((List.range 7).filter fun i=>decide (((i:Nat):Int)∈afterOf a b)).map fun i=>((i:Nat):Int):=by
  refine zbF ?_ ((zcY a b).imp fun h=>by omega) ?_
  ·rw [List.perm_ext_iff_of_nodup (za4 (zcY a b))]
   ·intro t
    simp only [List.mem_map,List.mem_filter,List.mem_range,decide_eq_true_eq]
    constructor
    ·intro h
     have:=zfR t h
     exact ⟨t.toNat,⟨by omega,by rwa [show ((t.toNat:Nat):Int)=t by omega]⟩,by omega⟩
    ·rintro ⟨i,⟨_,h⟩,rfl⟩
     exact h
   ·refine za4 ?_
    rw [List.pairwise_map]
    refine List.Pairwise.sublist List.filter_sublist (List.Pairwise.imp ?_ (List.pairwise_lt_range (n:=7)))
    intro a b h
    omega
  ·rw [List.pairwise_map]
   refine List.Pairwise.sublist List.filter_sublist (List.Pairwise.imp ?_ (List.pairwise_lt_range (n:=7)))
   intro a b h
   omega
 rw [hs]
 exact (ahead_worth _).symm
noncomputable def ind (b:Bool):Nat:=if b=true then 1 else 0
noncomputable def sumR (n:Nat) (g:Nat->Nat):Nat:=((List.range n).map g).sum
theorem sumR_zero (g:Nat->Nat):sumR 0 g=0:=rfl
theorem za3 (n:Nat) (g:Nat->Nat):sumR (n + 1) g=sumR n g + g n:=by
 unfold sumR
 rw [List.range_succ,List.map_append,List.sum_append]
 simp
theorem zaL {n:Nat} {g h:Nat->Nat} (e:∀ i,i < n->g i=h i):sumR n g=sumR n h:=by
 unfold sumR
 congr 1
 exact List.map_congr_left fun i hi=>e i (List.mem_range.mp hi)
theorem zdU {n:Nat} {g:Nat->Nat} (e:∀ i,i < n->g i=0):sumR n g=0:=by
 induction n with
 | zero=>rfl
 | succ n ih=>rw [za3,ih fun i hi=>e i (by omega),e n (by omega)]
theorem zfk (n:Nat) (g h:Nat->Nat):sumR n (fun i=>g i + h i)=sumR n g + sumR n h:=by
 induction n with
 | zero=>rfl
 | succ n ih=>rw [za3,za3,za3,ih]; omega
theorem sumR_swap (n m:Nat) (g:Nat->Nat->Nat):sumR n (fun i=>sumR m (g i))=sumR m fun j=>sumR n fun i=>g i j:=by
 induction n with
 | zero=>exact (zdU fun _ _=>rfl).symm
 | succ n ih =>
  rw [za3,ih,<- zfk]
  exact zaL fun j _=>by rw [za3]
theorem zdT {n j0:Nat} {p:Nat->Bool} {g:Nat->Nat} (hj:j0 < n) (hp:∀ j,j < n->(p j=true ↔ j=j0)):sumR n (fun j=>if p j=true then g j else 0)=g j0:=by
 induction n with
 | zero=>omega
 | succ n ih =>
  rw [za3]
  by_cases e:j0=n
  ·subst e
   rw [zdU fun i hi=>if_neg (fun z=>by have:=(hp i (by omega)).mp z; omega),if_pos ((hp j0 (by omega)).mpr rfl),Nat.zero_add]
  ·rw [ih (by omega) fun j hj'=>hp j (by omega),if_neg (fun z=>e ((hp n (by omega)).mp z).symm),Nat.add_zero]
structure Tile (sp:Nat) (al ta:Nat->Nat->Bool):Prop where
 pos:1<=sp
 pa:∀ k d,al (k + sp) d=al k d
 pt:∀ k d,ta (k + sp) d=ta k d
 la:∀ k d,7<=d->al k d=false
 lt:∀ k d,8<=d->ta k d=false
 one:∀ k,ind (al k 0) + ind (ta k 0)=1
 step:∀ k d,ind (al (k + 1) d)=ind (al k (d + 1)) + ind (ta k (d + 1))
namespace Tile
variable {sp:Nat} {al ta:Nat->Nat->Bool}
end Tile
noncomputable def tkOf (C:Combs) (x:Str):List Int:=(cGet C x).getD []
theorem zc7 {ah ts:List Int} (ha:∀ t∈ah,0<=t/\t<=6) (ht:∀ t∈ts,0<=t/\t<=7) (d:Nat):(d:Int)∈afterOf ah ts ↔ ((d + 1:Nat):Int)∈ah\/((d + 1:Nat):Int)∈ts:=by
 unfold afterOf
 rw [List.mem_map]
 constructor
 ·rintro ⟨y,hy,e⟩
  obtain ⟨h1,h2⟩:=List.mem_filter.mp hy
  have h3:=(mem_canon.mp h1).1
  rw [show ((d + 1:Nat):Int)=y by omega]
  exact List.mem_append.mp h3
 ·intro h
  refine ⟨((d + 1:Nat):Int),List.mem_filter.mpr ⟨mem_canon.mpr ⟨List.mem_append.mpr h,?_⟩,decide_eq_true (by omega)⟩,by omega⟩
  rcases h with h | h
  ·have:=ha _ h; omega
  ·exact ht _ h
theorem tk_perm {C C':Combs} (p:C.Perm C') (nd:(C.map (·.1)).Nodup) (x:Str):cGet C x=cGet C' x:=by
 have nd':(C'.map (·.1)).Nodup:=(p.map _).nodup_iff.mp nd
 cases e:cGet C x with
 | none =>
  symm
  rw [get_none] at e ⊢
  exact fun z=>e ((p.map _).mem_iff.mpr z)
 | some ts=>exact (zcI nd' (p.mem_iff.mp (zee e))).symm
noncomputable def laid (nm:Nat->Str) (sp:Nat):List Nat:=(List.range sp).filter fun j=>decide (nm j≠Str.ofString "")
theorem zfj (n c:Nat) (g:Nat->Nat):c * sumR n g=sumR n fun i=>c * g i:=by
 induction n with
 | zero=>simp [sumR_zero]
 | succ n ih=>rw [za3,za3,Nat.mul_add,ih]
theorem KindsL.getG {G:Addr->Prop} {H:Hp}:∀ {vs:List V} {ks:List (Str×List Int)} {i:Nat} {v:V},KindsL G H vs ks->vs[i]?=some v->∃ k q t,ks[i]?=some k/\v = .ref q/\H q=some (.lst [.str k.1,.ref t])/\H t=some (.lst (k.2.map V.int))/\G t
 | [],[],_,_,_,e=>by simp at e
 | _ :: _,k :: _,0,_,⟨⟨q,t,e,h1,h2,g1,g2⟩,_⟩,z=>by
  simp at z
  subst z
  exact ⟨k,q,t,rfl,e,h1,h2,g2⟩
 | _ :: _,_ :: _,i + 1,_,⟨_,b⟩,z=>by
  obtain ⟨k,q,t,h⟩:=KindsL.getG (i:=i) b (by simpa using z)
  exact ⟨k,q,t,by simpa using h⟩
 | [],_ :: _,_,_,x,_=>x.elim
 | _ :: _,[],_,_,x,_=>x.elim
theorem KindsL.live {G:Addr->Prop} {H:Hp}:∀ {vs:List V} {ks:List (Str×List Int)},KindsL G H vs ks->KindsL (fun x=>H x≠none) H vs ks
 | [],[],_=>trivial
 | _ :: _,_ :: _,⟨⟨q,t,e,h1,h2,_,_⟩,r⟩=>⟨⟨q,t,e,h1,h2,(show H q≠none by rw [h1]; exact nofun),(show H t≠none by rw [h2]; exact nofun)⟩,KindsL.live r⟩
 | [],_ :: _,x=>x.elim
 | _ :: _,[],x=>x.elim
theorem Drawn.live {G:Addr->Prop} {H:Hp} {vs:List V} {ks:List (Str×List Int)} (d:Drawn G H vs ks):Drawn (fun x=>H x≠none) H vs ks:=⟨d.rows.live,d.nd,d.good⟩
noncomputable abbrev gallopS:Bool->Keyed->Array Keyed->Nat->Nat->Nat->StateT SortSt Sem (Option Nat):=sortPriv% PySem.Builtin.gallop
structure Ranks (prog:Program) (w:World) (A:Around) (E:Value->Shared->Prop) (s:Shared) (kd:SortKind) (S:Keyed->Prop) (rk:Keyed->Int):Prop where
 ask:∀ {x y:Keyed} {st:SortSt} {Q:Option Bool->SortSt->Prop},S x->S y->kindOf st=kd->Q (some (decide (rk x < rk y))) st->wpS (model prog w) A E s (lt' x y) Q st
section
variable {prog:Program} {w:World} {A:Around} {E:Value->Shared->Prop} {s:Shared} {kd:SortKind} {S:Keyed->Prop} {rk:Keyed->Int}
noncomputable def kAt (rk:Keyed->Int) (arr:Array Keyed) (i:Nat):Int:=match arr[i]? with
 | some x=>rk x
 | none=>0
theorem zaZ {arr:Array Keyed} {i:Nat} (h:i < arr.size):kAt rk arr i=rk arr[i]:=by unfold kAt; rw [Array.getElem?_eq_getElem h]
theorem zaH {arr:Array Keyed} {i:Nat} {Q:Keyed->SortSt->Prop} {st:SortSt} (h:i < arr.size) (q:Q arr[i] st):wpS (model prog w) A E s (elem' arr i) Q st:=by
 rw [elem'_eq,Array.getElem?_eq_getElem h]
 exact wpS_pure q
noncomputable def Up2 (rk:Keyed->Int) (arr:Array Keyed) (lo hi:Nat):Prop:=∀ i j,lo<=i->i<=j->j < hi->kAt rk arr i<=kAt rk arr j
theorem zbD (C:Ranks prog w A E s kd S rk) {left:Bool} {key:Keyed} {arr:Array Keyed} {b n hint:Nat} {Q:Option Nat->SortSt->Prop} {st:SortSt} (hk:S key) (hS:∀ i (h:i < arr.size),b<=i->i < b + n->S arr[i]) (sz:b + n<=arr.size) (hh:hint < n) (up:Up2 rk arr b (b + n)) (hst:kindOf st=kd)
  (q:∀ k,k<=n->(∀ i,i < k->(if left=true then kAt rk arr (b + i) < rk key else kAt rk arr (b + i)<=rk key))->(∀ i,k<=i->i < n->(if left=true then rk key<=kAt rk arr (b + i) else rk key < kAt rk arr (b + i)))->Q (some k) st) :
  wpS (model prog w) A E s (gallopS left key arr b n hint) Q st:=by
 obtain ⟨P,hP⟩:∃ P:Nat->Bool,P=fun i=>if left=true then decide (kAt rk arr (b + i) < rk key) else decide (kAt rk arr (b + i)<=rk key):=⟨_,rfl⟩
 have mono:∀ i j,i<=j->j < n->P j=true->P i=true:=fun i j hij hj h=>by
  have:=up (b + i) (b + j) (by omega) (by omega) (by omega)
  rw [hP] at h ⊢
  dsimp only at h ⊢
  cases left
  ·simp at h ⊢; omega
  ·simp at h ⊢; omega
 have q':∀ k,k<=n->(∀ i,i < k->P i=true)->(∀ i,k<=i->i < n->P i=false)->Q (some k) st:=fun k h1 h2 h3=>by
  refine q k h1 (fun i hi => ?_) (fun i h4 h5 => ?_)
  ·have:=h2 i hi
   rw [hP] at this
   cases left <;> simpa using this
  ·have:=h3 i h4 h5
   rw [hP] at this
   cases left <;> simpa using this
 have bey:∀ i,i < n->∀ (Q':Option Bool->SortSt->Prop),Q' (some (P i)) st->wpS (model prog w) A E s (do
   let x <- elem' arr (b + i)
   if left=true then lt' x key else do
    let r <- lt' key x
    pure (Option.map (fun x => !x) r)) Q' st:=fun i hi Q' h=>by
  refine wpS_bind (zaH (by omega) ?_)
  have hSi:=hS (b + i) (by omega) (by omega) (by omega)
  have e:=zaZ (rk:=rk) (show b + i < arr.size by omega)
  cases hl:left with
  | true =>
   rw [if_pos rfl]
   refine C.ask hSi hk hst ?_
   rw [hP,hl] at h
   simpa [e] using h
  | false =>
   rw [if_neg Bool.false_ne_true]
   refine wpS_bind (C.ask hk hSi hst (wpS_pure ?_))
   rw [hP,hl] at h
   have e2:(!decide (rk key < rk arr[b + i]))=decide (kAt rk arr (b + i)<=rk key):=by
    rw [e,<- decide_not,decide_eq_decide]; omega
   show Q' (some (!decide (rk key < rk arr[b + i]))) st
   rw [e2]
   simpa using h
 have bin:∀ lo hi,lo<=hi->hi<=n->(∀ i,i < lo->P i=true)->(∀ i,hi<=i->i < n->P i=false)->∀ (F:Nat->Option (Option Nat)×Nat×Nat->StateT SortSt Sem (ForInStep (Option (Option Nat)×Nat×Nat))),
   (∀ x lo hi,lo < hi->hi<=n->∀ R:ForInStep (Option (Option Nat)×Nat×Nat)->SortSt->Prop,R (.yield (none,if P (lo + (hi - lo) / 2)=true then (lo + (hi - lo) / 2 + 1,hi) else (lo,lo + (hi - lo) / 2))) st->wpS (model prog w) A E s (F x (none,lo,hi)) R st) ->
   (∀ x lo hi,hi<=lo->∀ R:ForInStep (Option (Option Nat)×Nat×Nat)->SortSt->Prop,R (.done (none,lo,hi)) st->wpS (model prog w) A E s (F x (none,lo,hi)) R st) ->
   wpS (model prog w) A E s (forIn [:n] (none,lo,hi) F) (fun c st'=>st'=st/\∃ k,c.1=none/\c.2.2=k/\k<=n/\(∀ i,i < k->P i=true)/\(∀ i,k<=i->i < n->P i=false)) st:=fun lo hi h1 h2 h3 h4 F f1 f2=>by
  refine wpS_forRange (I:=fun x c st'=>st'=st/\∃ lo hi,c=(none,lo,hi)/\lo<=hi/\hi<=n/\hi - lo + x<=n/\(∀ i,i < lo->P i=true)/\(∀ i,hi<=i->i < n->P i=false)) ?_ ?_ ⟨rfl,lo,hi,rfl,h1,h2,by omega,h3,h4⟩
  ·rintro x c st' _ hx ⟨rfl,lo,hi,rfl,a1,a2,a3,a4,a5⟩
   by_cases e:lo < hi
   ·refine f1 x lo hi e a2 _ ?_
    dsimp only
    cases hm:P (lo + (hi - lo) / 2) with
    | true=>exact ⟨rfl,lo + (hi - lo) / 2 + 1,hi,rfl,by omega,a2,by omega,fun i hi'=>mono i (lo + (hi - lo) / 2) (by omega) (by omega) hm,a5⟩
    | false =>
     refine ⟨rfl,lo,lo + (hi - lo) / 2,rfl,by omega,by omega,by omega,a4,fun i h6 h7 => ?_⟩
     cases hz:P i with
     | false=>rfl
     | true=>rw [mono _ i h6 h7 hz] at hm; cases hm
   ·exact f2 x lo hi (by omega) _ ⟨rfl,hi,rfl,rfl,a2,fun i hi'=>a4 i (by omega),a5⟩
  ·rintro c st' ⟨rfl,lo,hi,rfl,a1,a2,a3,a4,a5⟩
   exact ⟨rfl,hi,rfl,rfl,a2,fun i hi'=>a4 i (by omega),a5⟩
 refine wpS_bind (bey hint hh _ ?_)
 dsimp only
 cases hr:P hint with
 | true =>
  rw [if_pos rfl]
  refine wpS_bind (wpS_mono (wpS_forRange (I:=fun x c st'=>st'=st/\∃ la off,c=(none,la,off)/\la < off/\x + 1<=off/\hint + la < n/\P (hint + la)=true) (Q:=fun c st'=>st'=st/\∃ la off,c=(none,la,off)/\la < off/\hint + la < n/\P (hint + la)=true/\(n - hint<=off\/(off < n - hint/\P (hint + off)=false))) ?step ?fin ⟨rfl,0,1,rfl,by omega,by omega,by omega,hr⟩) ?post)
  case fin =>
   rintro c st' ⟨rfl,la,off,rfl,a1,a2,a3,a4⟩
   exact ⟨rfl,la,off,rfl,a1,a3,a4,.inl (by omega)⟩
  case step =>
   rintro x c st' _ hx ⟨rfl,la,off,rfl,a1,a2,a3,a4⟩
   dsimp only
   by_cases e:off>=n - hint
   ·rw [if_pos e]
    exact wpS_pure ⟨rfl,la,off,rfl,a1,a3,a4,.inl e⟩
   ·rw [if_neg e]
    refine wpS_bind (bey (hint + off) (by omega) _ ?_)
    dsimp only
    cases hm:P (hint + off) with
    | true =>
     rw [if_neg (by decide)]
     exact wpS_pure ⟨rfl,off,2 * off + 1,rfl,by omega,by omega,by omega,hm⟩
    | false =>
     rw [if_pos (by decide)]
     exact wpS_pure ⟨rfl,la,off,rfl,a1,a3,a4,.inr ⟨by omega,hm⟩⟩
  case post =>
   rintro c st' ⟨rfl,la,off,rfl,a1,a3,a4,a5⟩
   dsimp only
   refine wpS_bind (wpS_mono (bin (hint + la + 1) (hint + min off (n - hint)) (by omega) (by omega) (fun i hi=>mono i (hint + la) (by omega) a3 a4) (fun i h6 h7 => ?_) _ (fun x lo hi h1 h2 R hR => ?_) fun x lo hi h1 R hR => ?_) (by rintro ⟨r,lo',hi'⟩ st2 ⟨rfl,k,e1,e2,h1,h2,h3⟩; dsimp only at e1 e2 ⊢; subst e1 e2; exact wpS_pure (q' _ h1 h2 h3)))
   ·rcases a5 with z | ⟨z1,z2⟩
    ·omega
    ·cases hz:P i with
     | false=>rfl
     | true=>rw [mono (hint + off) i (by omega) h7 hz] at z2; cases z2
   ·dsimp only
    rw [if_neg (by omega)]
    refine wpS_bind (bey _ (by omega) _ ?_)
    dsimp only
    cases hm:P (lo + (hi - lo) / 2) with
    | true=>rw [if_pos rfl]; rw [hm,if_pos rfl] at hR; exact wpS_pure hR
    | false=>rw [if_neg Bool.false_ne_true]; rw [hm,if_neg Bool.false_ne_true] at hR; exact wpS_pure hR
   ·dsimp only
    rw [if_pos h1]
    exact wpS_pure hR
 | false =>
  rw [if_neg Bool.false_ne_true]
  refine wpS_bind (wpS_mono (wpS_forRange (I:=fun x c st'=>st'=st/\∃ la off,c=(none,la,off)/\la < off/\x + 1<=off/\la<=hint/\P (hint - la)=false) (Q:=fun c st'=>st'=st/\∃ la off,c=(none,la,off)/\la < off/\la<=hint/\P (hint - la)=false/\(hint + 1<=off\/(off < hint + 1/\P (hint - off)=true))) ?step ?fin ⟨rfl,0,1,rfl,by omega,by omega,by omega,hr⟩) ?post)
  case fin =>
   rintro c st' ⟨rfl,la,off,rfl,a1,a2,a3,a4⟩
   exact ⟨rfl,la,off,rfl,a1,a3,a4,.inl (by omega)⟩
  case step =>
   rintro x c st' _ hx ⟨rfl,la,off,rfl,a1,a2,a3,a4⟩
   dsimp only
   by_cases e:off>=hint + 1
   ·rw [if_pos e]
    exact wpS_pure ⟨rfl,la,off,rfl,a1,a3,a4,.inl e⟩
   ·rw [if_neg e]
    refine wpS_bind (bey (hint - off) (by omega) _ ?_)
    dsimp only
    cases hm:P (hint - off) with
    | true =>
     rw [if_pos rfl]
     exact wpS_pure ⟨rfl,la,off,rfl,a1,a3,a4,.inr ⟨by omega,hm⟩⟩
    | false =>
     rw [if_neg Bool.false_ne_true]
     exact wpS_pure ⟨rfl,off,2 * off + 1,rfl,by omega,by omega,by omega,hm⟩
  case post =>
   rintro c st' ⟨rfl,la,off,rfl,a1,a3,a4,a5⟩
   dsimp only
   refine wpS_bind (wpS_mono (bin (hint + 1 - min off (hint + 1)) (hint - la) (by omega) (by omega) (fun i hi => ?_) (fun i h6 h7 => ?_) _ (fun x lo hi h1 h2 R hR => ?_) fun x lo hi h1 R hR => ?_) (by rintro ⟨r,lo',hi'⟩ st2 ⟨rfl,k,e1,e2,h1,h2,h3⟩; dsimp only at e1 e2 ⊢; subst e1 e2; exact wpS_pure (q' _ h1 h2 h3)))
   ·rcases a5 with z | ⟨z1,z2⟩
    ·omega
    ·exact mono i (hint - off) (by omega) (by omega) z2
   ·cases hz:P i with
    | false=>rfl
    | true=>rw [mono (hint - la) i h6 h7 hz] at a4; cases a4
   ·dsimp only
    rw [if_neg (by omega)]
    refine wpS_bind (bey _ (by omega) _ ?_)
    dsimp only
    cases hm:P (lo + (hi - lo) / 2) with
    | true=>rw [if_pos rfl]; rw [hm,if_pos rfl] at hR; exact wpS_pure hR
    | false=>rw [if_neg Bool.false_ne_true]; rw [hm,if_neg Bool.false_ne_true] at hR; exact wpS_pure hR
   ·dsimp only
    rw [if_pos h1]
    exact wpS_pure hR
end
noncomputable abbrev Srt (rk:Keyed->Int) (l:List Keyed):Prop:=l.Pairwise fun x y=>rk x<=rk y
structure MI (rk:Keyed->Int) (la lb out:List Keyed) (ia ib:Nat):Prop where
 perm:out.Perm (la.take ia ++ lb.take ib)
 srt:Srt rk out
 low:∀ x∈out,(∀ y∈la.drop ia,rk x<=rk y)/\∀ y∈lb.drop ib,rk x<=rk y
noncomputable def MFin (rk:Keyed->Int) (la lb res:List Keyed):Prop:=res.Perm (la ++ lb)/\Srt rk res
section
variable {rk:Keyed->Int} {la lb out:List Keyed} {ia ib:Nat}
theorem za1 {l:List Keyed} {i:Nat} (h:i < l.length):l.drop i=l[i] :: l.drop (i + 1):=List.drop_eq_getElem_cons h
theorem zdX {l:List Keyed} (s:Srt rk l) {i:Nat} (h:i < l.length):∀ y∈l.drop (i + 1),rk l[i]<=rk y:=by
 have:=List.Pairwise.sublist (List.drop_sublist i l) s
 rw [za1 h] at this
 exact (List.pairwise_cons.mp this).1
theorem MI.pushA (m:MI rk la lb out ia ib) (sa:Srt rk la) (h:ia < la.length) (hb:∀ y∈lb.drop ib,rk la[ia]<=rk y):MI rk la lb (out ++ [la[ia]]) (ia + 1) ib:=by
 have hd:=za1 h
 refine ⟨?_,?_,fun x hx => ?_⟩
 ·rw [List.take_succ_eq_append_getElem h]
  have:=m.perm.append_right [la[ia]]
  refine this.trans ?_
  rw [List.append_assoc,List.append_assoc]
  exact List.Perm.append_left _ List.perm_append_comm
 ·refine List.pairwise_append.mpr ⟨m.srt,by simp,fun x hx y hy => ?_⟩
  rw [List.mem_singleton.mp hy]
  exact (m.low x hx).1 _ (by rw [hd]; exact List.mem_cons_self)
 ·rcases List.mem_append.mp hx with z | z
  ·exact ⟨fun y hy=>(m.low x z).1 y (by rw [hd]; exact List.mem_cons_of_mem _ hy),(m.low x z).2⟩
  ·rw [List.mem_singleton.mp z]
   exact ⟨zdX sa h,hb⟩
theorem MI.pushB (m:MI rk la lb out ia ib) (sb:Srt rk lb) (h:ib < lb.length) (ha:∀ y∈la.drop ia,rk lb[ib]<=rk y):MI rk la lb (out ++ [lb[ib]]) ia (ib + 1):=by
 have hd:=za1 h
 refine ⟨?_,?_,fun x hx => ?_⟩
 ·rw [List.take_succ_eq_append_getElem h]
  have:=m.perm.append_right [lb[ib]]
  rwa [List.append_assoc] at this
 ·refine List.pairwise_append.mpr ⟨m.srt,by simp,fun x hx y hy => ?_⟩
  rw [List.mem_singleton.mp hy]
  exact (m.low x hx).2 _ (by rw [hd]; exact List.mem_cons_self)
 ·rcases List.mem_append.mp hx with z | z
  ·exact ⟨(m.low x z).1,fun y hy=>(m.low x z).2 y (by rw [hd]; exact List.mem_cons_of_mem _ hy)⟩
  ·rw [List.mem_singleton.mp z]
   exact ⟨ha,zdX sb h⟩
theorem MI.moreA (sa:Srt rk la):∀ {k ia:Nat} {out:List Keyed},MI rk la lb out ia ib->ia + k<=la.length->(∀ i (h:i < la.length),ia<=i->i < ia + k->∀ y∈lb.drop ib,rk la[i]<=rk y)->MI rk la lb (out ++ (la.drop ia).take k) (ia + k) ib
 | 0,ia,out,m,_,_=>by simpa using m
 | k + 1,ia,out,m,h,hy=>by
  have m1:=m.pushA sa (by omega) (hy ia (by omega) (Nat.le_refl _) (by omega))
  have m2:=MI.moreA sa (k:=k) m1 (by omega) fun i hi h1 h2=>hy i hi (by omega) (by omega)
  rw [za1 (show ia < la.length by omega),List.take_succ_cons]
  rw [List.append_assoc,List.singleton_append,show ia + 1 + k=ia + (k + 1) by omega] at m2
  exact m2
theorem MI.moreB (sb:Srt rk lb):∀ {k ib:Nat} {out:List Keyed},MI rk la lb out ia ib->ib + k<=lb.length->(∀ i (h:i < lb.length),ib<=i->i < ib + k->∀ y∈la.drop ia,rk lb[i]<=rk y)->MI rk la lb (out ++ (lb.drop ib).take k) ia (ib + k)
 | 0,ib,out,m,_,_=>by simpa using m
 | k + 1,ib,out,m,h,hy=>by
  have m1:=m.pushB sb (by omega) (hy ib (by omega) (Nat.le_refl _) (by omega))
  have m2:=MI.moreB sb (k:=k) m1 (by omega) fun i hi h1 h2=>hy i hi (by omega) (by omega)
  rw [za1 (show ib < lb.length by omega),List.take_succ_cons]
  rw [List.append_assoc,List.singleton_append,show ib + 1 + k=ib + (k + 1) by omega] at m2
  exact m2
theorem MI.restA (m:MI rk la lb out ia lb.length) (sa:Srt rk la):MFin rk la lb (out ++ la.drop ia):=by
 refine ⟨?_,List.pairwise_append.mpr ⟨m.srt,List.Pairwise.sublist (List.drop_sublist _ _) sa,fun x hx y hy=>(m.low x hx).1 y hy⟩⟩
 have:=m.perm.append_right (la.drop ia)
 rw [List.take_length] at this
 refine this.trans ?_
 rw [List.append_assoc]
 refine (List.Perm.append_left _ List.perm_append_comm).trans ?_
 rw [<- List.append_assoc,List.take_append_drop]
theorem MI.restB (m:MI rk la lb out la.length ib) (sb:Srt rk lb):MFin rk la lb (out ++ lb.drop ib):=by
 refine ⟨?_,List.pairwise_append.mpr ⟨m.srt,List.Pairwise.sublist (List.drop_sublist _ _) sb,fun x hx y hy=>(m.low x hx).2 y hy⟩⟩
 have:=m.perm.append_right (lb.drop ib)
 rw [List.take_length,List.append_assoc,List.take_append_drop] at this
 exact this
theorem MI.restBA (m:MI rk la lb out ia ib) (sa:Srt rk la) (sb:Srt rk lb) (h:∀ x∈lb.drop ib,∀ y∈la.drop ia,rk x<=rk y):MFin rk la lb (out ++ lb.drop ib ++ la.drop ia):=by
 refine ⟨?_,List.pairwise_append.mpr ⟨List.pairwise_append.mpr ⟨m.srt,List.Pairwise.sublist (List.drop_sublist _ _) sb,fun x hx y hy=>(m.low x hx).2 y hy⟩,List.Pairwise.sublist (List.drop_sublist _ _) sa,fun x hx y hy => ?_⟩⟩
 ·have:=m.perm.append_right (lb.drop ib ++ la.drop ia)
  rw [<- List.append_assoc] at this
  refine this.trans ?_
  rw [List.append_assoc,<- List.append_assoc (lb.take ib),List.take_append_drop]
  refine (List.Perm.append_left _ List.perm_append_comm).trans ?_
  rw [<- List.append_assoc,List.take_append_drop]
 ·rcases List.mem_append.mp hx with z | z
  ·exact (m.low x z).1 y hy
  ·exact h x z y hy
end
theorem zaN (a:Array Keyed) (i j:Nat):(a.extract i j).toList=(a.toList.drop i).take (j - i):=by simp
theorem zaP (a:Array Keyed) (i:Nat):(a.extract i).toList=a.toList.drop i:=by
 rw [zaN]
 exact List.take_of_length_le (by simp)
noncomputable def Like (st st':SortSt):Prop:=kindOf st'=kindOf st/\arrOf st'=arrOf st/\pendingOf st'=pendingOf st/\failedOf st'=failedOf st
theorem Like.refl (st:SortSt):Like st st:=⟨rfl,rfl,rfl,rfl⟩
noncomputable abbrev mergeLoS:Array Keyed->Array Keyed->StateT SortSt Sem (Array Keyed):=sortPriv% PySem.Builtin.mergeLo
theorem zgR {rk:Keyed->Int} {arr:Array Keyed} (s:Srt rk arr.toList) {lo hi:Nat} (h:hi<=arr.size):Up2 rk arr lo hi:=fun i j _ hij hj=>by
 rw [zaZ (show i < arr.size by omega),zaZ (show j < arr.size by omega)]
 by_cases e:i=j
 ·subst e; exact Int.le_refl _
 ·have:=List.pairwise_iff_getElem.mp s i j (by simpa using (show i < arr.size by omega)) (by simpa using (show j < arr.size by omega)) (by omega)
  simpa using this
theorem zap (a:Array Keyed) {i:Nat} (h:i < a.size):a.toList[i]'(by simpa using h)=a[i]:=by simp
theorem zce {l:List Keyed} {i:Nat} {y:Keyed} (h:y∈l.drop i):∃ j,∃ hj:j < l.length,i<=j/\l[j]=y:=by
 obtain ⟨j,hj,e⟩:=List.getElem_of_mem h
 rw [List.length_drop] at hj
 rw [List.getElem_drop] at e
 exact ⟨i + j,by omega,by omega,e⟩
theorem zcT {rk:Keyed->Int} {l:List Keyed} (s:Srt rk l) {i:Nat} (h:i < l.length):∀ y∈l.drop i,rk l[i]<=rk y:=fun y hy=>by
 rw [za1 h] at hy
 rcases List.mem_cons.mp hy with rfl | z
 ·exact Int.le_refl _
 ·exact zdX s h y z
theorem zal {M:Model} {A:Around} {E:Value->Shared->Prop} {s:Shared} {σ α : Type} {c:Prop} [Decidable c] {x y:StateT σ Sem α} {Q : α -> σ -> Prop} {st : σ} (h1:c->wpS M A E s x Q st) (h2:¬ c->wpS M A E s y Q st):wpS M A E s (if c then x else y) Q st:=by
 by_cases h:c
 ·rw [if_pos h]; exact h1 h
 ·rw [if_neg h]; exact h2 h
theorem zfd {M:Model} {A:Around} {E:Value->Shared->Prop} {s:Shared} {σ α : Type} {c:Prop} [Decidable c] {x y:StateT σ Sem α} {Q : α -> σ -> Prop} {st : σ} (h2:¬ c->wpS M A E s y Q st) (h1:c->wpS M A E s x Q st):wpS M A E s (if c then x else y) Q st:=zal h1 h2
theorem zfX {X G:Prop} (k:X->G) (h:X):G:=k h
theorem za9 {M:Model} {A:Around} {E:Value->Shared->Prop} {s:Shared} {f:SortSt->SortSt} {Q:PUnit->SortSt->Prop} {st:SortSt} (hf:Like st (f st)) (h:∀ st',Like st st'->Q ⟨⟩ st'):wpS M A E s (modify f:StateT SortSt Sem PUnit) Q st:=wpS_modify (h _ hf)
theorem Like.trans {a b c:SortSt} (h:Like a b) (k:Like b c):Like a c:=⟨k.1.trans h.1,k.2.1.trans h.2.1,k.2.2.1.trans h.2.2.1,k.2.2.2.trans h.2.2.2⟩
section
variable {prog:Program} {w:World} {A:Around} {E:Value->Shared->Prop} {s:Shared} {kd:SortKind} {S:Keyed->Prop} {rk:Keyed->Int}
theorem mergeLo_ok (C:Ranks prog w A E s kd S rk) {a b:Array Keyed} {Q:Array Keyed->SortSt->Prop} {st:SortSt} (ha:0 < a.size) (hb:0 < b.size) (sa:Srt rk a.toList) (sb:Srt rk b.toList) (Sa:∀ i (h:i < a.size),S a[i]) (Sb:∀ i (h:i < b.size),S b[i]) (h0:∀ y∈a.toList,rk b[0]<=rk y) (hl:∀ y∈b.toList,rk y<=rk (a[a.size - 1]'(by omega))) (hst:kindOf st=kd)
  (q:∀ res st',Like st st'->MFin rk a.toList b.toList res.toList->Q res st'):wpS (model prog w) A E s (mergeLoS a b) Q st:=by
 have la:a.toList.length=a.size:=Array.length_toList
 have lb:b.toList.length=b.size:=Array.length_toList
 have m0:MI rk a.toList b.toList [b[0]] 0 1:=by
  have mm:MI rk a.toList b.toList [] 0 0:=⟨by simp,List.Pairwise.nil,fun x hx=>by cases hx⟩
  have:=mm.pushB sb (by omega) (by rw [List.drop_zero,zap b hb]; exact h0)
  rw [zap b hb] at this
  exact this
 have lastA:∀ ib,∀ x∈b.toList.drop ib,∀ ia,ia + 1=a.size->∀ y∈a.toList.drop ia,rk x<=rk y:=fun ib x hx ia e y hy=>by
  obtain ⟨j,hj,h1,e2⟩:=zce hy
  have:j=a.size - 1:=by omega
  subst this
  rw [<- e2,zap a (by omega)]
  exact hl x (List.mem_of_mem_drop hx)
 have doneA:∀ {out:List Keyed} {ia ib:Nat},MI rk a.toList b.toList out ia ib->ib=b.size->MFin rk a.toList b.toList (out ++ a.toList.drop ia ++ b.toList.drop ib):=fun m e=>by
  subst e
  rw [<- lb] at m ⊢
  rw [List.drop_length,List.append_nil]
  exact m.restA sa
 have doneB:∀ {out:List Keyed} {ia ib:Nat},MI rk a.toList b.toList out ia ib->ia=a.size->MFin rk a.toList b.toList (out ++ a.toList.drop ia ++ b.toList.drop ib):=fun m e=>by
  subst e
  rw [<- la] at m ⊢
  rw [List.drop_length,List.append_nil]
  exact m.restB sb
 refine wpS_bind (wpS_lift (wpAny_rule ⟨rfl,?_⟩))
 dsimp only
 refine wpS_bind (zaH hb ?_)
 refine zal (fun e1 => ?_) (fun e1 => ?_)
 ·have e1:1=b.size:=by simpa using e1
  refine wpS_pure (q _ st (Like.refl st) ?_)
  have:=doneA m0 e1
  simp only [Array.toList_append,Array.toList_push,zaP]
  exact this
 refine zal (fun e2 => ?_) (fun e2 => ?_)
 ·have e2:0 + 1=a.size:=by simpa using e2
  refine wpS_pure (q _ st (Like.refl st) ?_)
  have:=m0.restBA sa sb (fun x hx y hy=>lastA 1 x hx 0 e2 y hy)
  simp only [Array.toList_append,Array.toList_push,zaP]
  exact this
 have e1:¬ 1=b.size:=by simpa using e1
 have e2:¬ 0 + 1=a.size:=by simpa using e2
 refine wpS_bind (wpS_get ?_)
 refine wpS_bind (wpS_mono (wpS_forRange (I:=fun x c st'=>Like st st'/\∃ (out:Array Keyed) (ia ib g:Nat),c=(none,out,ia,ib,g)/\MI rk a.toList b.toList out.toList ia ib/\ia + 1 < a.size/\ib < b.size/\x < ia + ib) (Q:=fun c st'=>Like st st'/\∃ res:Array Keyed,c.1=some res/\MFin rk a.toList b.toList res.toList) ?step ?fin ⟨Like.refl st,_,_,_,_,rfl,m0,by omega,by omega,by omega⟩) ?post)
 case fin =>
  rintro c st' ⟨_,out,ia,ib,g,rfl,_,h1,h2,h3⟩
  omega
 case post =>
  rintro ⟨r,out,ia,ib,g⟩ st' ⟨hL,res,e,hf⟩
  dsimp only at e ⊢
  subst e
  exact wpS_pure (q res st' hL hf)
 case step =>
  rintro x c st1 _ hx ⟨hL,out,ia,ib,g,rfl,m,h1,h2,h3⟩
  dsimp only
  have hk1:kindOf st1=kd:=hL.1.trans hst
  refine wpS_bind (wpS_mono (wpS_forRange (I:=fun y c st'=>st'=st1/\∃ (out:Array Keyed) (ia ib ac bc:Nat),c=(none,out,ia,ib,ac,bc)/\MI rk a.toList b.toList out.toList ia ib/\ia + 1 < a.size/\ib < b.size/\x < ia + ib/\(0 < y->x + 1 < ia + ib)) (Q:=fun c st'=>st'=st1/\((∃ res:Array Keyed,c.1=some res/\MFin rk a.toList b.toList res.toList)\/∃ (out:Array Keyed) (ia ib ac bc:Nat),c=(none,out,ia,ib,ac,bc)/\MI rk a.toList b.toList out.toList ia ib/\ia + 1 < a.size/\ib < b.size/\x + 1 < ia + ib)) ?step ?fin ⟨rfl,_,_,_,_,_,rfl,m,h1,h2,h3,by omega⟩) ?post)
  case fin =>
   rintro c st' ⟨rfl,out,ia,ib,ac,bc,rfl,m,h1,h2,h3,h4⟩
   exact ⟨rfl,.inr ⟨out,ia,ib,ac,bc,rfl,m,h1,h2,h4 (by omega)⟩⟩
  case step =>
   rintro y c st' _ hy ⟨rfl,out,ia,ib,ac,bc,rfl,m,h1,h2,h3,h4⟩
   dsimp only
   refine wpS_bind (zaH h2 (wpS_bind (zaH (show ia < a.size by omega) (wpS_bind (C.ask (Sb _ h2) (Sa _ (by omega)) hk1 ?_)))))
   dsimp only
   refine zal (fun hw => ?_) (fun hw => ?_)
   ·have hw:rk b[ib] < rk a[ia]:=by simpa using hw
    have m':=m.pushB sb (by omega) (fun y hy=>by
     have:=zcT sa (show ia < a.toList.length by omega) y hy
     rw [zap a (by omega)] at this
     rw [zap b h2]
     omega)
    rw [zap b h2] at m'
    refine wpS_bind (zaH h2 ?_)
    refine zal (fun e => ?_) (fun e => ?_)
    ·have e:ib + 1=b.size:=by simpa using e
     refine wpS_pure ⟨rfl,.inl ⟨_,rfl,?_⟩⟩
     have:=doneA m' e
     simp only [Array.toList_append,Array.toList_push,zaP]
     exact this
    have e:¬ ib + 1=b.size:=by simpa using e
    refine zal (fun _=>wpS_pure ⟨rfl,.inr ⟨_,_,_,_,_,rfl,by simpa using m',h1,by omega,by omega⟩⟩) (fun _=>wpS_pure ⟨rfl,_,_,_,_,_,rfl,by simpa using m',h1,by omega,by omega,by omega⟩)
   ·have hw:rk a[ia]<=rk b[ib]:=by simpa using hw
    have m':=m.pushA sa (by omega) (fun y hy=>by
     have:=zcT sb (show ib < b.toList.length by omega) y hy
     rw [zap b h2] at this
     rw [zap a (by omega)]
     omega)
    rw [zap a (by omega)] at m'
    refine wpS_bind (zaH (show ia < a.size by omega) ?_)
    refine zal (fun e => ?_) (fun e => ?_)
    ·have e:ia + 1 + 1=a.size:=by simpa using e
     refine wpS_pure ⟨rfl,.inl ⟨_,rfl,?_⟩⟩
     have:=m'.restBA sa sb (fun x hx y hy=>lastA _ x hx _ e y hy)
     simp only [Array.toList_append,Array.toList_push,zaP]
     exact this
    have e:¬ ia + 1 + 1=a.size:=by simpa using e
    refine zal (fun _=>wpS_pure ⟨rfl,.inr ⟨_,_,_,_,_,rfl,by simpa using m',by omega,h2,by omega⟩⟩) (fun _=>wpS_pure ⟨rfl,_,_,_,_,_,rfl,by simpa using m',by omega,h2,by omega,by omega⟩)
  case post =>
   rintro ⟨r,out,ia,ib,ac,bc⟩ st' ⟨rfl,hres | ⟨out',ia',ib',ac',bc',e,m,h1,h2,h3⟩⟩
   ·obtain ⟨res,e,hf⟩:=hres
    dsimp only at e ⊢
    subst e
    exact wpS_pure ⟨hL,res,rfl,hf⟩
   cases e
   dsimp only
   refine wpS_bind (wpS_lift (wpAny_rule ⟨rfl,?_⟩))
   refine wpS_bind (wpS_mono (wpS_forRange (I:=fun y c st'=>Like st st'/\∃ (out:Array Keyed) (ia ib g ac bc:Nat),c=(none,out,ia,ib,g,ac,bc)/\MI rk a.toList b.toList out.toList ia ib/\ia + 1 < a.size/\ib < b.size/\x + 1 < ia + ib) (Q:=fun c st'=>Like st st'/\((∃ res:Array Keyed,c.1=some res/\MFin rk a.toList b.toList res.toList)\/∃ (out:Array Keyed) (ia ib g ac bc:Nat),c=(none,out,ia,ib,g,ac,bc)/\MI rk a.toList b.toList out.toList ia ib/\ia + 1 < a.size/\ib < b.size/\x + 1 < ia + ib)) ?step ?fin ⟨hL,_,_,_,_,_,_,rfl,m,h1,h2,h3⟩) ?post)
   case fin =>
    rintro c st' ⟨hL2,h⟩
    exact ⟨hL2,.inr h⟩
   case post =>
    rintro ⟨r,out,ia,ib,g,ac,bc⟩ st2 ⟨hL2,hres | ⟨out',ia',ib',g',ac',bc',e,m,h1,h2,h3⟩⟩
    ·obtain ⟨res,e,hf⟩:=hres
     dsimp only at e ⊢
     subst e
     exact wpS_pure ⟨hL2,res,rfl,hf⟩
    cases e
    dsimp only
    exact wpS_bind (za9 ⟨rfl,rfl,rfl,rfl⟩ fun st3 hL3=>wpS_pure ⟨hL2.trans hL3,_,_,_,_,rfl,m,h1,h2,h3⟩)
   case step =>
    rintro y c st2 _ hy ⟨hL2,out,ia,ib,g,ac,bc,rfl,m,h1,h2,h3⟩
    dsimp only
    apply zfX
    ·intro R
     refine zal (fun h0=>wpS_bind (za9 ⟨rfl,rfl,rfl,rfl⟩ ?_)) (fun h0=>wpS_bind (za9 ⟨rfl,rfl,rfl,rfl⟩ ?_))
     ·clear h0
      generalize g - 1=g'
      revert g'
      exact R
     ·exact R g
    intro g' st3 hL3
    have hL4:=hL2.trans hL3
    have hk3:kindOf st3=kd:=hL4.1.trans hst
    refine wpS_bind (zaH h2 ?_)
    refine wpS_bind (zbD C (Sb _ h2) (fun i h _ _=>Sa i h) (by omega) (by omega) (zgR sa (by omega)) hk3 fun k j1 j2 j3 => ?_)
    dsimp only
    simp only [Bool.false_eq_true,if_false] at j2 j3
    have mA:=m.moreA sa (k:=k) (by omega) (fun i hi g1 g2 y hy=>by
     have h5:=j2 (i - ia) (by omega)
     rw [show ia + (i - ia)=i by omega,zaZ (by omega)] at h5
     have h6:=zcT sb (show ib < b.toList.length by omega) y hy
     rw [zap b h2] at h6
     rw [zap a (by omega)]
     omega)
    have gtB:∀ y∈a.toList.drop (ia + k),rk b[ib]<=rk y:=fun y hy=>by
     obtain ⟨j,hj,g1,e⟩:=zce hy
     have h5:=j3 (j - ia) (by omega) (by omega)
     rw [show ia + (j - ia)=j by omega,zaZ (by omega)] at h5
     rw [<- e,zap a (by omega)]
     omega
    have ex:(a.extract ia (ia + k)).toList=(a.toList.drop ia).take k:=by rw [zaN,Nat.add_sub_cancel_left]
    rw [<- ex,<- Array.toList_append] at mA
    have f12:∀ (_:¬ (ia + k + 1 == a.size)=true) (_:¬ (ia + k == a.size)=true),ia + k + 1 < a.size:=fun e5 e6=>by
     have e5:¬ ia + k + 1=a.size:=by simpa using e5
     have e6:¬ ia + k=a.size:=by simpa using e6
     omega
    have f32:x + 1 < ia + k + ib:=by omega
    apply zfX
    ·intro R
     refine zfd (fun k0 => ?b2) (fun k0=>zal (fun e => ?x2) (fun e5=>zal (fun e => ?y2) (fun e6 => ?a2)))
     rotate_right
     have h12:=f12 e5 e6
     have h32:=f32
     clear e5 e6 k0
     have mA':=mA
     have gtB':=gtB
     generalize out ++ a.extract ia (ia + k)=out2 at mA' ⊢
     generalize ia + k=ia2 at mA' gtB' h12 h32 ⊢
     revert out2 ia2
     exact R
     ·have e7:k=0:=by omega
      have gtB2:=gtB
      rw [e7,Nat.add_zero] at gtB2
      exact R out ia m gtB2 h1 h3
     ·have e:ia + k + 1=a.size:=by simpa using e
      refine wpS_pure ⟨hL4,.inl ⟨_,rfl,?_⟩⟩
      have:=mA.restBA sa sb (fun x hx y hy=>lastA _ x hx _ e y hy)
      simp only [Array.toList_append,zaP] at this ⊢
      exact this
     ·have e:ia + k=a.size:=by simpa using e
      refine wpS_pure ⟨hL4,.inl ⟨_,rfl,?_⟩⟩
      have:=doneB mA e
      simp only [Array.toList_append,zaP] at this ⊢
      exact this
    intro out2 ia2 mA gtB h12 h32
    have mB:=mA.pushB sb (by omega) (fun y hy=>by rw [zap b h2]; exact gtB y hy)
    rw [zap b h2] at mB
    refine wpS_bind (zaH h2 ?_)
    refine zal (fun e => ?_) (fun e => ?_)
    ·have e:ib + 1=b.size:=by simpa using e
     refine wpS_pure ⟨hL4,.inl ⟨_,rfl,?_⟩⟩
     have:=doneA mB e
     simp only [Array.toList_append,Array.toList_push,zaP]
     exact this
    have e8:¬ ib + 1=b.size:=by simpa using e
    have hia2:ia2 < a.size:=by omega
    have hb4:ib + 1 < b.size:=by omega
    have h34:x + 1 < ia2 + (ib + 1):=by omega
    rw [<- Array.toList_push] at mB
    generalize out2.push b[ib]=out4 at mB ⊢
    generalize ib + 1=ib4 at mB hb4 h34 ⊢
    refine wpS_bind (zaH hia2 ?_)
    refine wpS_bind (zbD C (Sa _ hia2) (fun i h _ _=>Sb i h) (by omega) (by omega) (zgR sb (by omega)) hk3 fun k2 j4 j5 j6 => ?_)
    dsimp only
    simp only [if_true] at j5 j6
    have mC:=mB.moreB sb (k:=k2) (by omega) (fun i hi g1 g2 y hy=>by
     have h5:=j5 (i - ib4) (by omega)
     rw [show ib4 + (i - ib4)=i by omega,zaZ (by omega)] at h5
     have h6:=zcT sa (show ia2 < a.toList.length by omega) y hy
     rw [zap a hia2] at h6
     rw [zap b (by omega)]
     omega)
    have leA:∀ y∈b.toList.drop (ib4 + k2),rk a[ia2]<=rk y:=fun y hy=>by
     obtain ⟨j,hj,g1,e⟩:=zce hy
     have h5:=j6 (j - ib4) (by omega) (by omega)
     rw [show ib4 + (j - ib4)=j by omega,zaZ (by omega)] at h5
     rw [<- e,zap b (by omega)]
     omega
    have ex2:(b.extract ib4 (ib4 + k2)).toList=(b.toList.drop ib4).take k2:=by rw [zaN,Nat.add_sub_cancel_left]
    rw [<- ex2,<- Array.toList_append] at mC
    have f22:∀ (_:¬ (ib4 + k2 == b.size)=true),ib4 + k2 < b.size:=fun e5=>by
     have e5:¬ ib4 + k2=b.size:=by simpa using e5
     omega
    have f33:x + 1 < ia2 + (ib4 + k2):=by omega
    apply zfX
    ·intro R
     refine zfd (fun k1 => ?b3) (fun k1=>zal (fun e => ?x3) (fun e5 => ?a3))
     rotate_right
     have h22:=f22 e5
     have h33:=f33
     clear e5 k1
     have mC':=mC
     have leA':=leA
     generalize out4 ++ b.extract ib4 (ib4 + k2)=out3 at mC' ⊢
     generalize ib4 + k2=ib2 at mC' leA' h22 h33 ⊢
     revert out3 ib2
     exact R
     ·have e7:k2=0:=by omega
      have leA2:=leA
      rw [e7,Nat.add_zero] at leA2
      exact R out4 ib4 mB leA2 hb4 h34
     ·have e:ib4 + k2=b.size:=by simpa using e
      refine wpS_pure ⟨hL4,.inl ⟨_,rfl,?_⟩⟩
      have:=doneA mC e
      simp only [Array.toList_append,Array.toList_push,zaP] at this ⊢
      exact this
    intro out3 ib2 mC leA h22 h33
    have mD:=mC.pushA sa (by omega) (fun y hy=>by rw [zap a hia2]; exact leA y hy)
    rw [zap a hia2,<- Array.toList_push] at mD
    refine wpS_bind (zaH hia2 ?_)
    refine zal (fun e => ?_) (fun e => ?_)
    ·have e:ia2 + 1 + 1=a.size:=by simpa using e
     refine wpS_pure ⟨hL4,.inl ⟨_,rfl,?_⟩⟩
     have:=mD.restBA sa sb (fun x hx y hy=>lastA _ x hx _ e y hy)
     simp only [Array.toList_append,Array.toList_push,zaP] at this ⊢
     exact this
    have e9:¬ ia2 + 1 + 1=a.size:=by simpa using e
    exact zal (fun _=>wpS_pure ⟨hL4,.inr ⟨_,_,_,_,_,_,rfl,mD,by omega,h22,by omega⟩⟩) (fun _=>wpS_pure ⟨hL4,_,_,_,_,_,_,rfl,mD,by omega,h22,by omega⟩)
end
structure HI (rk:Keyed->Int) (la lb out:List Keyed) (na nb:Nat):Prop where
 perm:out.Perm (la.drop na ++ lb.drop nb)
 srt:out.Pairwise fun x y=>rk y<=rk x
 high:∀ x∈out,(∀ y∈la.take na,rk y<=rk x)/\∀ y∈lb.take nb,rk y<=rk x
section
variable {rk:Keyed->Int} {la lb out:List Keyed} {na nb:Nat}
theorem zbq {l:List Keyed} {n:Nat} {y:Keyed} (h:y∈l.take n):∃ j,∃ hj:j < l.length,j < n/\l[j]=y:=by
 obtain ⟨j,hj,e⟩:=List.getElem_of_mem h
 rw [List.length_take] at hj
 rw [List.getElem_take] at e
 exact ⟨j,by omega,by omega,e⟩
theorem zdw {l:List Keyed} (s:Srt rk l) {n:Nat} (h0:0 < n) (h:n<=l.length):∀ y∈l.take n,rk y<=rk (l[n - 1]'(by omega)):=fun y hy=>by
 obtain ⟨j,hj,h1,rfl⟩:=zbq hy
 by_cases e:j=n - 1
 ·subst e; exact Int.le_refl _
 ·exact List.pairwise_iff_getElem.mp s j (n - 1) hj (by omega) (by omega)
theorem zcl {l:List Keyed} {m n:Nat} (h:m<=n) {y:Keyed} (hy:y∈l.take m):y∈l.take n:=by
 have:l.take m=(l.take n).take m:=by rw [List.take_take,Nat.min_eq_left h]
 rw [this] at hy
 exact List.mem_of_mem_take hy
theorem HI.pushA (m:HI rk la lb out na nb) (sa:Srt rk la) (h0:0 < na) (h:na<=la.length) (hb:∀ y∈lb.take nb,rk y<=rk (la[na - 1]'(by omega))):HI rk la lb (out ++ [la[na - 1]'(by omega)]) (na - 1) nb:=by
 have hd:la.drop (na - 1)=la[na - 1]'(by omega) :: la.drop na:=by
  have:=za1 (l:=la) (i:=na - 1) (by omega)
  rwa [Nat.sub_add_cancel h0] at this
 have hm:la[na - 1]'(by omega)∈la.take na:=by
  rw [List.mem_take_iff_getElem]
  exact ⟨na - 1,by omega,rfl⟩
 refine ⟨?_,List.pairwise_append.mpr ⟨m.srt,by simp,fun x hx y hy => ?_⟩,fun x hx => ?_⟩
 ·rw [hd,List.cons_append]
  exact (m.perm.append_right _).trans List.perm_append_comm
 ·rw [List.mem_singleton.mp hy]
  exact (m.high x hx).1 _ hm
 ·rcases List.mem_append.mp hx with z | z
  ·exact ⟨fun y hy=>(m.high x z).1 y (zcl (by omega) hy),(m.high x z).2⟩
  ·rw [List.mem_singleton.mp z]
   exact ⟨fun y hy=>zdw sa h0 h y (zcl (by omega) hy),hb⟩
theorem HI.pushB (m:HI rk la lb out na nb) (sb:Srt rk lb) (h0:0 < nb) (h:nb<=lb.length) (ha:∀ y∈la.take na,rk y<=rk (lb[nb - 1]'(by omega))):HI rk la lb (out ++ [lb[nb - 1]'(by omega)]) na (nb - 1):=by
 have hd:lb.drop (nb - 1)=lb[nb - 1]'(by omega) :: lb.drop nb:=by
  have:=za1 (l:=lb) (i:=nb - 1) (by omega)
  rwa [Nat.sub_add_cancel h0] at this
 have hm:lb[nb - 1]'(by omega)∈lb.take nb:=by
  rw [List.mem_take_iff_getElem]
  exact ⟨nb - 1,by omega,rfl⟩
 refine ⟨?_,List.pairwise_append.mpr ⟨m.srt,by simp,fun x hx y hy => ?_⟩,fun x hx => ?_⟩
 ·rw [hd]
  refine (m.perm.append_right _).trans ?_
  rw [List.append_assoc]
  refine List.Perm.append_left _ ?_
  exact List.perm_append_comm
 ·rw [List.mem_singleton.mp hy]
  exact (m.high x hx).2 _ hm
 ·rcases List.mem_append.mp hx with z | z
  ·exact ⟨(m.high x z).1,fun y hy=>(m.high x z).2 y (zcl (by omega) hy)⟩
  ·rw [List.mem_singleton.mp z]
   exact ⟨ha,fun y hy=>zdw sb h0 h y (zcl (by omega) hy)⟩
theorem HI.moreA (m:HI rk la lb out na nb) (sa:Srt rk la) (h:na<=la.length):∀ {d p:Nat},p + d=na->(∀ i (h:i < la.length),p<=i->i < na->∀ y∈lb.take nb,rk y<=rk la[i])->HI rk la lb (out ++ ((la.drop p).take d).reverse) p nb
 | 0,p,e,_=>by
  have:p=na:=by omega
  subst this
  simpa using m
 | d + 1,p,e,hy=>by
  have m1:=HI.moreA m sa h (d:=d) (p:=p + 1) (by omega) fun i hi h1 h2=>hy i hi (by omega) h2
  have m2:=m1.pushA sa (by omega) (by omega) (hy (p + 1 - 1) (by omega) (by omega) (by omega))
  rw [za1 (show p < la.length by omega),List.take_succ_cons,List.reverse_cons,<- List.append_assoc]
  simpa only [Nat.add_sub_cancel] using m2
theorem HI.moreB (m:HI rk la lb out na nb) (sb:Srt rk lb) (h:nb<=lb.length):∀ {d p:Nat},p + d=nb->(∀ i (h:i < lb.length),p<=i->i < nb->∀ y∈la.take na,rk y<=rk lb[i])->HI rk la lb (out ++ ((lb.drop p).take d).reverse) na p
 | 0,p,e,_=>by
  have:p=nb:=by omega
  subst this
  simpa using m
 | d + 1,p,e,hy=>by
  have m1:=HI.moreB m sb h (d:=d) (p:=p + 1) (by omega) fun i hi h1 h2=>hy i hi (by omega) h2
  have m2:=m1.pushB sb (by omega) (by omega) (hy (p + 1 - 1) (by omega) (by omega) (by omega))
  rw [za1 (show p < lb.length by omega),List.take_succ_cons,List.reverse_cons,<- List.append_assoc]
  simpa only [Nat.add_sub_cancel] using m2
theorem HI.rev (m:HI rk la lb out na nb):Srt rk out.reverse:=List.pairwise_reverse.mpr m.srt
theorem HI.restAB (m:HI rk la lb out na nb) (sa:Srt rk la) (sb:Srt rk lb) (h:∀ x∈la.take na,∀ y∈lb.take nb,rk x<=rk y):MFin rk la lb (la.take na ++ lb.take nb ++ out.reverse):=by
 refine ⟨?_,List.pairwise_append.mpr ⟨List.pairwise_append.mpr ⟨List.Pairwise.sublist (List.take_sublist _ _) sa,List.Pairwise.sublist (List.take_sublist _ _) sb,h⟩,m.rev,fun x hx y hy => ?_⟩⟩
 ·refine (List.Perm.append_left _ ((List.reverse_perm out).trans m.perm)).trans ?_
  have e:la.take na ++ lb.take nb ++ (la.drop na ++ lb.drop nb)=la.take na ++ (lb.take nb ++ la.drop na) ++ lb.drop nb:=by simp
  rw [e]
  refine (List.Perm.append_right _ (List.Perm.append_left _ List.perm_append_comm)).trans ?_
  rw [<- List.append_assoc,List.take_append_drop,List.append_assoc,List.take_append_drop]
 ·have:=m.high y (List.mem_reverse.mp hy)
  rcases List.mem_append.mp hx with z | z
  ·exact this.1 x z
  ·exact this.2 x z
theorem HI.restBA (m:HI rk la lb out na nb) (sa:Srt rk la) (sb:Srt rk lb) (h:∀ x∈lb.take nb,∀ y∈la.take na,rk x<=rk y):MFin rk la lb (lb.take nb ++ la.take na ++ out.reverse):=by
 refine ⟨?_,List.pairwise_append.mpr ⟨List.pairwise_append.mpr ⟨List.Pairwise.sublist (List.take_sublist _ _) sb,List.Pairwise.sublist (List.take_sublist _ _) sa,h⟩,m.rev,fun x hx y hy => ?_⟩⟩
 ·refine (List.Perm.append_left _ ((List.reverse_perm out).trans m.perm)).trans ?_
  have e:lb.take nb ++ la.take na ++ (la.drop na ++ lb.drop nb)=lb.take nb ++ la ++ lb.drop nb:=by
   have:=List.take_append_drop na la
   rw [List.append_assoc,<- List.append_assoc (la.take na),this,<- List.append_assoc]
  rw [e]
  refine (List.Perm.append_right _ List.perm_append_comm).trans ?_
  rw [List.append_assoc,List.take_append_drop]
 ·have:=m.high y (List.mem_reverse.mp hy)
  rcases List.mem_append.mp hx with z | z
  ·exact this.2 x z
  ·exact this.1 x z
end
theorem zaD (a:Array Keyed) (n:Nat):(a.extract 0 n).toList=a.toList.take n:=by
 rw [zaN,List.drop_zero,Nat.sub_zero]
noncomputable abbrev mergeHiS:Array Keyed->Array Keyed->StateT SortSt Sem (Array Keyed):=sortPriv% PySem.Builtin.mergeHi
section
variable {prog:Program} {w:World} {A:Around} {E:Value->Shared->Prop} {s:Shared} {kd:SortKind} {S:Keyed->Prop} {rk:Keyed->Int}
theorem mergeHi_ok (C:Ranks prog w A E s kd S rk) {a b:Array Keyed} {Q:Array Keyed->SortSt->Prop} {st:SortSt} (ha:0 < a.size) (hb:0 < b.size) (sa:Srt rk a.toList) (sb:Srt rk b.toList) (Sa:∀ i (h:i < a.size),S a[i]) (Sb:∀ i (h:i < b.size),S b[i]) (h0:∀ y∈a.toList,rk b[0]<=rk y) (hl:∀ y∈b.toList,rk y<=rk (a[a.size - 1]'(by omega))) (hst:kindOf st=kd)
  (q:∀ res st',Like st st'->MFin rk a.toList b.toList res.toList->Q res st'):wpS (model prog w) A E s (mergeHiS a b) Q st:=by
 have la:a.toList.length=a.size:=Array.length_toList
 have lb:b.toList.length=b.size:=Array.length_toList
 have m0:HI rk a.toList b.toList [a[a.size - 1]'(by omega)] (a.size - 1) b.size:=by
  have mm:HI rk a.toList b.toList [] a.size b.size:=⟨by rw [<- la,<- lb]; simp,List.Pairwise.nil,fun x hx=>by cases hx⟩
  have:=mm.pushA sa ha (by omega) (fun y hy=>by rw [zap a (by omega)]; exact hl y (List.mem_of_mem_take hy))
  rw [zap a (by omega)] at this
  exact this
 have firstB:∀ nb,nb=1->∀ na,∀ x∈b.toList.take nb,∀ y∈a.toList.take na,rk x<=rk y:=fun nb e na x hx y hy=>by
  subst e
  obtain ⟨j,hj,h1,e2⟩:=zbq hx
  have:j=0:=by omega
  subst this
  rw [<- e2,zap b hb]
  exact h0 y (List.mem_of_mem_take hy)
 have doneA:∀ {out:List Keyed} {na nb:Nat},HI rk a.toList b.toList out na nb->na=0->MFin rk a.toList b.toList (a.toList.take na ++ b.toList.take nb ++ out.reverse):=fun m e=>by
  subst e
  exact m.restAB sa sb (fun x hx=>by simp at hx)
 have doneB:∀ {out:List Keyed} {na nb:Nat},HI rk a.toList b.toList out na nb->nb=0->MFin rk a.toList b.toList (a.toList.take na ++ b.toList.take nb ++ out.reverse):=fun m e=>by
  subst e
  exact m.restAB sa sb (fun x _ y hy=>by simp at hy)
 refine wpS_bind (wpS_lift (wpAny_rule ⟨rfl,?_⟩))
 dsimp only
 refine wpS_bind (zaH (by omega) ?_)
 refine zal (fun e1 => ?_) (fun e1 => ?_)
 ·have e1:a.size - 1=0:=by simpa using e1
  refine wpS_pure (q _ st (Like.refl st) ?_)
  have:=doneA m0 e1
  simp only [Array.toList_append,Array.toList_reverse,zaD]
  exact this
 refine zal (fun e2 => ?_) (fun e2 => ?_)
 ·have e2:b.size=1:=by simpa using e2
  refine wpS_pure (q _ st (Like.refl st) ?_)
  have:=m0.restBA sa sb (fun x hx y hy=>firstB _ e2 _ x hx y hy)
  simp only [Array.toList_append,Array.toList_reverse,zaD]
  exact this
 have e1:¬ a.size - 1=0:=by simpa using e1
 have e2:¬ b.size=1:=by simpa using e2
 refine wpS_bind (wpS_get ?_)
 refine wpS_bind (wpS_mono (wpS_forRange (I:=fun x c st'=>Like st st'/\∃ (out:Array Keyed) (na nb g:Nat),c=(none,na,nb,out,g)/\HI rk a.toList b.toList out.toList na nb/\0 < na/\na<=a.size/\1 < nb/\nb<=b.size/\x + na + nb < a.size + b.size) (Q:=fun c st'=>Like st st'/\∃ res:Array Keyed,c.1=some res/\MFin rk a.toList b.toList res.toList) ?step ?fin ⟨Like.refl st,_,_,_,_,rfl,m0,by omega,by omega,by omega,by omega,by omega⟩) ?post)
 case fin =>
  rintro c st' ⟨_,out,na,nb,g,rfl,_,h1,h2,h3,h4,h5⟩
  omega
 case post =>
  rintro ⟨r,na,nb,out,g⟩ st' ⟨hL,res,e,hf⟩
  dsimp only at e ⊢
  subst e
  exact wpS_pure (q res st' hL hf)
 case step =>
  rintro x c st1 _ hx ⟨hL,out,na,nb,g,rfl,m,h1,h1',h2,h2',h3⟩
  dsimp only
  have hk1:kindOf st1=kd:=hL.1.trans hst
  refine wpS_bind (wpS_mono (wpS_forRange (I:=fun y c st'=>st'=st1/\∃ (out:Array Keyed) (na nb ac bc:Nat),c=(none,na,nb,out,ac,bc)/\HI rk a.toList b.toList out.toList na nb/\0 < na/\na<=a.size/\1 < nb/\nb<=b.size/\x + na + nb < a.size + b.size/\(0 < y->x + 1 + na + nb < a.size + b.size)) (Q:=fun c st'=>st'=st1/\((∃ res:Array Keyed,c.1=some res/\MFin rk a.toList b.toList res.toList)\/∃ (out:Array Keyed) (na nb ac bc:Nat),c=(none,na,nb,out,ac,bc)/\HI rk a.toList b.toList out.toList na nb/\0 < na/\na<=a.size/\1 < nb/\nb<=b.size/\x + 1 + na + nb < a.size + b.size)) ?step ?fin ⟨rfl,_,_,_,_,_,rfl,m,h1,h1',h2,h2',h3,by omega⟩) ?post)
  case fin =>
   rintro c st' ⟨rfl,out,na,nb,ac,bc,rfl,m,h1,h1',h2,h2',h3,h4⟩
   exact ⟨rfl,.inr ⟨out,na,nb,ac,bc,rfl,m,h1,h1',h2,h2',h4 (by omega)⟩⟩
  case step =>
   rintro y c st' _ hy ⟨rfl,out,na,nb,ac,bc,rfl,m,h1,h1',h2,h2',h3,h4⟩
   dsimp only
   have ib:nb - 1 < b.size:=by omega
   have ia:na - 1 < a.size:=by omega
   refine wpS_bind (zaH ib (wpS_bind (zaH ia (wpS_bind (C.ask (Sb _ ib) (Sa _ ia) hk1 ?_)))))
   dsimp only
   refine zal (fun hw => ?_) (fun hw => ?_)
   ·have hw:rk b[nb - 1] < rk a[na - 1]:=by simpa using hw
    have m':=m.pushA sa h1 (by omega) (fun y hy=>by
     have:=zdw sb (show 0 < nb by omega) (by omega) y hy
     rw [zap b ib] at this
     rw [zap a ia]
     omega)
    rw [zap a ia,<- Array.toList_push] at m'
    refine wpS_bind (zaH ia ?_)
    refine zal (fun e => ?_) (fun e => ?_)
    ·have e:na - 1=0:=by simpa using e
     refine wpS_pure ⟨rfl,.inl ⟨_,rfl,?_⟩⟩
     have:=doneA m' e
     simp only [Array.toList_append,Array.toList_reverse,zaD]
     exact this
    have e:¬ na - 1=0:=by simpa using e
    refine zal (fun _=>wpS_pure ⟨rfl,.inr ⟨_,_,_,_,_,rfl,m',by omega,by omega,h2,h2',by omega⟩⟩) (fun _=>wpS_pure ⟨rfl,_,_,_,_,_,rfl,m',by omega,by omega,h2,h2',by omega,by omega⟩)
   ·have hw:rk a[na - 1]<=rk b[nb - 1]:=by simpa using hw
    have m':=m.pushB sb (by omega) (by omega) (fun y hy=>by
     have:=zdw sa h1 (by omega) y hy
     rw [zap a ia] at this
     rw [zap b ib]
     omega)
    rw [zap b ib,<- Array.toList_push] at m'
    refine wpS_bind (zaH ib ?_)
    refine zal (fun e => ?_) (fun e => ?_)
    ·have e:nb - 1=1:=by simpa using e
     refine wpS_pure ⟨rfl,.inl ⟨_,rfl,?_⟩⟩
     have:=m'.restBA sa sb (fun x hx y hy=>firstB _ e _ x hx y hy)
     simp only [Array.toList_append,Array.toList_reverse,zaD]
     exact this
    have e:¬ nb - 1=1:=by simpa using e
    refine zal (fun _=>wpS_pure ⟨rfl,.inr ⟨_,_,_,_,_,rfl,m',h1,h1',by omega,by omega,by omega⟩⟩) (fun _=>wpS_pure ⟨rfl,_,_,_,_,_,rfl,m',h1,h1',by omega,by omega,by omega,by omega⟩)
  case post =>
   rintro ⟨r,na,nb,out,ac,bc⟩ st' ⟨rfl,hres | ⟨out',na',nb',ac',bc',e,m,h1,h1',h2,h2',h3⟩⟩
   ·obtain ⟨res,e,hf⟩:=hres
    dsimp only at e ⊢
    subst e
    exact wpS_pure ⟨hL,res,rfl,hf⟩
   cases e
   dsimp only
   refine wpS_bind (wpS_lift (wpAny_rule ⟨rfl,?_⟩))
   refine wpS_bind (wpS_mono (wpS_forRange (I:=fun y c st'=>Like st st'/\∃ (out:Array Keyed) (na nb g ac bc:Nat),c=(none,na,nb,out,g,ac,bc)/\HI rk a.toList b.toList out.toList na nb/\0 < na/\na<=a.size/\1 < nb/\nb<=b.size/\x + 1 + na + nb < a.size + b.size) (Q:=fun c st'=>Like st st'/\((∃ res:Array Keyed,c.1=some res/\MFin rk a.toList b.toList res.toList)\/∃ (out:Array Keyed) (na nb g ac bc:Nat),c=(none,na,nb,out,g,ac,bc)/\HI rk a.toList b.toList out.toList na nb/\0 < na/\na<=a.size/\1 < nb/\nb<=b.size/\x + 1 + na + nb < a.size + b.size)) ?step ?fin ⟨hL,_,_,_,_,_,_,rfl,m,h1,h1',h2,h2',h3⟩) ?post)
   case fin =>
    rintro c st' ⟨hL2,h⟩
    exact ⟨hL2,.inr h⟩
   case post =>
    rintro ⟨r,na,nb,out,g,ac,bc⟩ st2 ⟨hL2,hres | ⟨out',na',nb',g',ac',bc',e,m,h1,h1',h2,h2',h3⟩⟩
    ·obtain ⟨res,e,hf⟩:=hres
     dsimp only at e ⊢
     subst e
     exact wpS_pure ⟨hL2,res,rfl,hf⟩
    cases e
    dsimp only
    exact wpS_bind (za9 ⟨rfl,rfl,rfl,rfl⟩ fun st3 hL3=>wpS_pure ⟨hL2.trans hL3,_,_,_,_,rfl,m,h1,h1',h2,h2',by omega⟩)
   case step =>
    rintro y c st2 _ hy ⟨hL2,out,na,nb,g,ac,bc,rfl,m,h1,h1',h2,h2',h3⟩
    dsimp only
    have ib:nb - 1 < b.size:=by omega
    refine zal (fun _=>wpS_bind (za9 ⟨rfl,rfl,rfl,rfl⟩ fun st3 hL3 => ?_)) (fun _=>wpS_bind (za9 ⟨rfl,rfl,rfl,rfl⟩ fun st3 hL3 => ?_))
    all_goals
     have hL4:=hL2.trans hL3
     have hk3:kindOf st3=kd:=hL4.1.trans hst
     refine wpS_bind (zaH ib ?_)
     refine wpS_bind (zbD C (Sb _ ib) (fun i h _ _=>Sa i h) (by omega) (by omega) (zgR sa (by omega)) hk3 fun p j1 j2 j3 => ?_)
     dsimp only
     simp only [Bool.false_eq_true,if_false,Nat.zero_add] at j2 j3
     have mA:=m.moreA sa (by omega) (d:=na - p) (p:=p) (by omega) (fun i hi g1 g2 y hy=>by
      have h5:=j3 i g1 g2
      rw [zaZ (by omega)] at h5
      have h6:=zdw sb (show 0 < nb by omega) (by omega) y hy
      rw [zap b ib] at h6
      rw [zap a (by omega)]
      omega)
     have leB:∀ y∈a.toList.take p,rk y<=rk b[nb - 1]:=fun y hy=>by
      obtain ⟨j,hj,g1,e⟩:=zbq hy
      have h5:=j2 j g1
      rw [zaZ (by omega)] at h5
      rw [<- e,zap a (by omega)]
      exact h5
     rw [<- zaN,<- Array.toList_reverse,<- Array.toList_append] at mA
     refine zal (fun k0 => ?_) (fun k0 => ?_)
     rotate_left
     have mA:=m
     have h12:=h1
     have h12':=h1'
     have h32:=h3
     have e7:p=na:=by omega
     rw [e7] at leB ⊢
     generalize out=out2 at mA ⊢
     generalize na=na2 at mA leB h12 h12' h32 ⊢
     rotate_left
     refine zal (fun e => ?_) (fun e => ?_)
     ·have e:p=0:=by simpa using e
      refine wpS_pure ⟨hL4,.inl ⟨_,rfl,?_⟩⟩
      have:=doneA mA e
      simp only [Array.toList_append,Array.toList_reverse,zaD] at this ⊢
      exact this
     have e5:¬ p=0:=by simpa using e
     have h12:0 < p:=by omega
     have h12':p<=a.size:=by omega
     have h32:x + 1 + p + nb < a.size + b.size:=by omega
     generalize out ++ (a.extract p na).reverse=out2 at mA ⊢
     generalize na - p=kk at k0 ⊢
     generalize p=na2 at mA leB h12 h12' h32 ⊢
    all_goals
     have mB:=mA.pushB sb (by omega) (by omega) (fun y hy=>by rw [zap b ib]; exact leB y hy)
     rw [zap b ib,<- Array.toList_push] at mB
     refine wpS_bind (zaH ib ?_)
     refine zal (fun e => ?_) (fun e => ?_)
     ·have e:nb - 1=1:=by simpa using e
      refine wpS_pure ⟨hL4,.inl ⟨_,rfl,?_⟩⟩
      have:=mB.restBA sa sb (fun x hx y hy=>firstB _ e _ x hx y hy)
      simp only [Array.toList_append,Array.toList_reverse,zaD]
      exact this
     have e8:¬ nb - 1=1:=by simpa using e
     have hia2:na2 - 1 < a.size:=by omega
     refine wpS_bind (zaH hia2 ?_)
     refine wpS_bind (zbD C (Sa _ hia2) (fun i h _ _=>Sb i h) (by omega) (by omega) (zgR sb (by omega)) hk3 fun p2 j4 j5 j6 => ?_)
     dsimp only
     simp only [if_true,Nat.zero_add] at j5 j6
     have mC:=mB.moreB sb (by omega) (d:=nb - 1 - p2) (p:=p2) (by omega) (fun i hi g1 g2 y hy=>by
      have h5:=j6 i g1 g2
      rw [zaZ (by omega)] at h5
      have h6:=zdw sa h12 (by omega) y hy
      rw [zap a hia2] at h6
      rw [zap b (by omega)]
      omega)
     have leA:∀ y∈b.toList.take p2,rk y<=rk a[na2 - 1]:=fun y hy=>by
      obtain ⟨j,hj,g1,e⟩:=zbq hy
      have h5:=j5 j g1
      rw [zaZ (by omega)] at h5
      rw [<- e,zap b (by omega)]
      omega
     rw [<- zaN,<- Array.toList_reverse,<- Array.toList_append] at mC
     refine zal (fun k1 => ?_) (fun k1 => ?_)
     rotate_left
     have mC:=mB
     have h22:1 < nb - 1:=by omega
     have h22':nb - 1<=b.size:=by omega
     have h33:x + 1 + na2 + (nb - 1) < a.size + b.size:=by omega
     have e7:p2=nb - 1:=by omega
     rw [e7] at leA ⊢
     generalize out2.push b[nb - 1]=out3 at mC ⊢
     generalize nb - 1=nb2 at mC leA h22 h22' h33 ⊢
     rotate_left
     refine zal (fun e => ?_) (fun e => ?_)
     ·have e:p2=1:=by simpa using e
      refine wpS_pure ⟨hL4,.inl ⟨_,rfl,?_⟩⟩
      have:=mC.restBA sa sb (fun x hx y hy=>firstB _ e _ x hx y hy)
      simp only [Array.toList_append,Array.toList_reverse,zaD] at this ⊢
      exact this
     have e5:¬ p2=1:=by simpa using e
     refine zal (fun e => ?_) (fun e => ?_)
     ·have e:p2=0:=by simpa using e
      refine wpS_pure ⟨hL4,.inl ⟨_,rfl,?_⟩⟩
      have:=doneB mC e
      simp only [Array.toList_append,Array.toList_reverse,zaD] at this ⊢
      exact this
     have e6:¬ p2=0:=by simpa using e
     have h22:1 < p2:=by omega
     have h22':p2<=b.size:=by omega
     have h33:x + 1 + na2 + p2 < a.size + b.size:=by omega
     generalize out2.push b[nb - 1] ++ (b.extract p2 (nb - 1)).reverse=out3 at mC ⊢
     generalize nb - 1 - p2=kk2 at k1 ⊢
     generalize p2=nb2 at mC leA h22 h22' h33 ⊢
    all_goals
     have mD:=mC.pushA sa h12 (by omega) (fun y hy=>by rw [zap a hia2]; exact leA y hy)
     rw [zap a hia2,<- Array.toList_push] at mD
     refine wpS_bind (zaH hia2 ?_)
     refine zal (fun e => ?_) (fun e => ?_)
     ·have e:na2 - 1=0:=by simpa using e
      refine wpS_pure ⟨hL4,.inl ⟨_,rfl,?_⟩⟩
      have:=doneA mD e
      simp only [Array.toList_append,Array.toList_reverse,zaD] at this ⊢
      exact this
     have e9:¬ na2 - 1=0:=by simpa using e
     exact zal (fun _=>wpS_pure ⟨hL4,.inr ⟨_,_,_,_,_,_,rfl,mD,by omega,by omega,h22,h22',by omega⟩⟩) (fun _=>wpS_pure ⟨hL4,_,_,_,_,_,_,rfl,mD,by omega,by omega,h22,h22',by omega⟩)
end
theorem za0 {rk:Keyed->Int} {xs ys:Array Keyed} {i j:Nat} (h:xs[i]?=ys[j]?):kAt rk xs i=kAt rk ys j:=by unfold kAt; rw [h]
theorem zcK {rk:Keyed->Int} {xs:Array Keyed} {i j:Nat} (hj:j<=xs.size) (k:Nat):kAt rk (mirror xs i j ((j - i) / 2)) k=if i<=k/\k < j then kAt rk xs (i + j - 1 - k) else kAt rk xs k:=by
 have e:=getElem?_mirror_all (i:=i) hj k
 by_cases h:i<=k/\k < j
 ·rw [if_pos h] at e ⊢; exact za0 e
 ·rw [if_neg h] at e ⊢; exact za0 e
theorem zbs {rk:Keyed->Int} {xs:Array Keyed} {i j:Nat} (hj:j<=xs.size) (h:∀ k,i<=k->k < j->kAt rk xs k=kAt rk xs (j - 1)) (k:Nat):kAt rk (mirror xs i j ((j - i) / 2)) k=kAt rk xs k:=by
 rw [zcK hj]
 by_cases e:i<=k/\k < j
 ·rw [if_pos e,h _ (by omega) (by omega),h k e.1 e.2]
 ·rw [if_neg e]
theorem zdI {rk:Keyed->Int} {xs:Array Keyed} {src d:Nat} (hs:src < xs.size) (hd:d<=src) (k:Nat):kAt rk (bubble xs src d) k=if k=src - d then kAt rk xs src else if src - d < k/\k<=src then kAt rk xs (k - 1) else kAt rk xs k:=by
 have e:=getElem?_bubble hs d hd k
 by_cases h:k=src - d
 ·rw [if_pos h] at e ⊢; exact za0 e
 ·rw [if_neg h] at e ⊢
  by_cases h2:src - d < k/\k<=src
  ·rw [if_pos h2] at e ⊢; exact za0 e
  ·rw [if_neg h2] at e ⊢; exact za0 e
structure Chg (lo hi:Nat) (st st':SortSt):Prop where
 kind:kindOf st'=kindOf st
 pend:pendingOf st'=pendingOf st
 fail:failedOf st'=failedOf st
 perm:(arrOf st').Perm (arrOf st)
 out:∀ i,(i < lo\/hi<=i)->(arrOf st')[i]?=(arrOf st)[i]?
theorem Chg.refl {lo hi:Nat} (st:SortSt):Chg lo hi st st:=⟨rfl,rfl,rfl,Array.Perm.refl _,fun _ _=>rfl⟩
theorem Chg.size {lo hi:Nat} {st st':SortSt} (h:Chg lo hi st st'):(arrOf st').size=(arrOf st).size:=h.perm.size_eq
theorem Chg.trans {lo hi:Nat} {a b c:SortSt} (h:Chg lo hi a b) (k:Chg lo hi b c):Chg lo hi a c:=⟨k.kind.trans h.kind,k.pend.trans h.pend,k.fail.trans h.fail,k.perm.trans h.perm,fun i hi=>(k.out i hi).trans (h.out i hi)⟩
theorem Chg.wide {lo hi lo' hi':Nat} {a b:SortSt} (h:Chg lo hi a b) (h1:lo'<=lo) (h2:hi<=hi'):Chg lo' hi' a b:=⟨h.kind,h.pend,h.fail,h.perm,fun i hi=>h.out i (by omega)⟩
theorem Chg.mirror {lo hi i j:Nat} {st st':SortSt} (h:Chg lo hi st st') (hi':lo<=i) (hj:j<=hi) (hs:j<=(arrOf st').size):Chg lo hi st (setArr st' (mirror (arrOf st') i j ((j - i) / 2))) :=
 h.trans ⟨rfl,rfl,rfl,mirror_perm _ _ _ _,fun k hk=>by
  show (PyProof.Rows.mirror (arrOf st') i j ((j - i) / 2))[k]?=_
  rw [getElem?_mirror_all hs,if_neg (by omega)]⟩
theorem Chg.bubble {lo hi src d:Nat} {st st':SortSt} (h:Chg lo hi st st') (h1:lo + d<=src) (h2:src < hi) (hs:src < (arrOf st').size):Chg lo hi st (setArr st' (bubble (arrOf st') src d)) :=
 h.trans ⟨rfl,rfl,rfl,bubble_perm _ _ _,fun k hk=>by
  show (PyProof.Rows.bubble (arrOf st') src d)[k]?=_
  rw [getElem?_bubble hs _ (by omega),if_neg (by omega),if_neg (by omega)]⟩
theorem zb3 {S:Keyed->Prop} {a b:Array Keyed} (p:b.Perm a) (h:∀ x∈a.toList,S x):∀ x∈b.toList,S x:=fun x hx=>h x ((Array.perm_iff_toList_perm.mp p).mem_iff.mp hx)
theorem zgN {S:Keyed->Prop} {a:Array Keyed} (h:∀ x∈a.toList,S x) (i:Nat) (hi:i < a.size):S a[i]:=h _ (by simp)
theorem Up2.more {rk:Keyed->Int} {arr:Array Keyed} {lo hi:Nat} (u:Up2 rk arr lo hi) (h:lo < hi) (e:kAt rk arr (hi - 1)<=kAt rk arr hi):Up2 rk arr lo (hi + 1):=fun i j h1 h2 h3=>by
 by_cases ej:j=hi
 ·by_cases ei:i=hi
  ·rw [ei,ej]; exact Int.le_refl _
  ·have:=u i (hi - 1) h1 (by omega) (by omega)
   rw [ej]; omega
 ·exact u i j h1 h2 (by omega)
noncomputable def Dn2 (rk:Keyed->Int) (arr:Array Keyed) (lo hi:Nat):Prop:=∀ i j,lo<=i->i<=j->j < hi->kAt rk arr j<=kAt rk arr i
theorem Dn2.more {rk:Keyed->Int} {arr:Array Keyed} {lo hi:Nat} (u:Dn2 rk arr lo hi) (h:lo < hi) (e:kAt rk arr hi<=kAt rk arr (hi - 1)):Dn2 rk arr lo (hi + 1):=fun i j h1 h2 h3=>by
 by_cases ej:j=hi
 ·by_cases ei:i=hi
  ·rw [ei,ej]; exact Int.le_refl _
  ·have:=u i (hi - 1) h1 (by omega) (by omega)
   rw [ej]; omega
 ·exact u i j h1 h2 (by omega)
theorem Dn2.like {rk:Keyed->Int} {arr arr':Array Keyed} {lo hi:Nat} (u:Dn2 rk arr lo hi) (h:∀ k,kAt rk arr' k=kAt rk arr k):Dn2 rk arr' lo hi:=fun i j h1 h2 h3=>by
 rw [h,h]; exact u i j h1 h2 h3
section
variable {prog:Program} {w:World} {A:Around} {E:Value->Shared->Prop} {s:Shared} {kd:SortKind} {S:Keyed->Prop} {rk:Keyed->Int}
theorem zgs (C:Ranks prog w A E s kd S rk) {i j:Nat} {st:SortSt} {Q:Option Bool->SortSt->Prop} (hS:∀ x∈(arrOf st).toList,S x) (hk:kindOf st=kd) (hi:i < (arrOf st).size) (hj:j < (arrOf st).size) (q:Q (some (decide (kAt rk (arrOf st) i < kAt rk (arrOf st) j))) st):wpS (model prog w) A E s (ltAt' i j) Q st:=by
 rw [ltAt'_eq]
 refine wpS_bind (wpS_get (wpS_bind (zaH hi (wpS_bind (zaH hj (C.ask (zgN hS i hi) (zgN hS j hj) hk ?_))))))
 rw [zaZ hi,zaZ hj] at q
 exact q
theorem zgM (C:Ranks prog w A E s kd S rk) {st:SortSt} {lo a nrem:Nat} (hS:∀ x∈(arrOf st).toList,S x) (hk:kindOf st=kd) (hn:lo + nrem<=(arrOf st).size) (ha:1<=a) (han:a<=nrem) (u:Up2 rk (arrOf st) lo (lo + a)) {F:Nat->Option (Option Nat)×Nat->StateT SortSt Sem (ForInStep (Option (Option Nat)×Nat))}
  (f:∀ x n R,lo + n < (arrOf st).size->1<=n->(if kAt rk (arrOf st) (lo + n) < kAt rk (arrOf st) (lo + n - 1) then R (ForInStep.done (none,n)) st else R (ForInStep.yield (none,n + 1)) st)->wpS (model prog w) A E s (F x (none,n)) R st) :
  wpS (model prog w) A E s (forIn [a:nrem] (none,a) F) (fun c st'=>st'=st/\∃ n,c=(none,n)/\a<=n/\n<=nrem/\Up2 rk (arrOf st) lo (lo + n)/\(n=nrem\/kAt rk (arrOf st) (lo + n) < kAt rk (arrOf st) (lo + n - 1))) st:=by
 refine wpS_forRange (I:=fun x c st'=>st'=st/\c=(none,x)/\Up2 rk (arrOf st) lo (lo + x)) ?step ?fin ⟨rfl,rfl,u⟩
 case fin =>
  rintro c st' ⟨rfl,rfl,u'⟩
  rw [show max a nrem=nrem by omega] at u' ⊢
  exact ⟨rfl,nrem,rfl,han,Nat.le_refl _,u',.inl rfl⟩
 case step =>
  rintro x c st' hax hxn ⟨rfl,rfl,u'⟩
  refine f x x _ (by omega) (by omega) ?_
  by_cases hl:kAt rk (arrOf st') (lo + x) < kAt rk (arrOf st') (lo + x - 1)
  ·rw [if_pos hl]
   exact ⟨rfl,x,rfl,hax,by omega,u',.inr hl⟩
  ·rw [if_neg hl]
   exact ⟨rfl,rfl,by have:=u'.more (by omega) (by omega); rwa [show lo + x + 1=lo + (x + 1) by omega] at this⟩
theorem countRun_ok (C:Ranks prog w A E s kd S rk) {st:SortSt} {lo nrem:Nat} {Q:Option Nat->SortSt->Prop} (hS:∀ x∈(arrOf st).toList,S x) (hk:kindOf st=kd) (hn:lo + nrem<=(arrOf st).size) (h1:1<=nrem)
  (q:∀ m st',Chg lo (lo + nrem) st st'->1<=m->m<=nrem->Up2 rk (arrOf st') lo (lo + m)->Q (some m) st'):wpS (model prog w) A E s (countRun' lo nrem) Q st:=by
 rw [countRun'_eq]
 have asc1:∀ {st1:SortSt},Chg lo (lo + nrem) st st1->∀ {i j:Nat} {R:Option Bool->SortSt->Prop},i < (arrOf st).size->j < (arrOf st).size->R (some (decide (kAt rk (arrOf st1) i < kAt rk (arrOf st1) j))) st1->wpS (model prog w) A E s (ltAt' i j) R st1:=fun {st1} c i j R hi hj r =>
  zgs C (zb3 c.perm hS) (c.kind.trans hk) (by rw [c.size]; exact hi) (by rw [c.size]; exact hj) r
 refine wpS_bind (wpS_mono (zgM C hS hk hn (Nat.le_refl 1) h1 (fun i j a b c=>by rw [show i=j by omega]; exact Int.le_refl _) fun x n R b1 b2 r => ?_) ?_)
 ·refine wpS_bind (asc1 (Chg.refl st) (by omega) (by omega) ?_)
  dsimp only
  refine zal (fun e => ?_) (fun e => ?_)
  ·rw [if_pos (by simpa using e)] at r; exact wpS_pure r
  ·rw [if_neg (by simpa using e)] at r; exact wpS_pure r
 rintro ⟨r,n⟩ st0 ⟨e0,n',e,hn1,hn2,u,hor⟩
 cases e
 rw [e0]
 clear e0 st0
 dsimp only
 refine zal (fun e=>wpS_pure (q n _ (Chg.refl _) hn1 hn2 u)) (fun e => ?_)
 have e:¬ n=nrem:=by simpa using e
 have hlt:=hor.resolve_left e
 refine zal (fun g => ?_) (fun g => ?_)
 refine wpS_bind (asc1 (Chg.refl st) (by omega) (by omega) ?_)
 dsimp only
 refine zal (fun _=>wpS_pure (q n _ (Chg.refl _) hn1 hn2 u)) (fun ng => ?_)
 have ng:kAt rk (arrOf st) (lo + n - 1)<=kAt rk (arrOf st) lo:=by simpa using ng
 have all:∀ k,lo<=k->k < lo + n->kAt rk (arrOf st) k=kAt rk (arrOf st) (lo + n - 1):=fun k a b=>by
  have a1:=u lo k (Nat.le_refl _) a b
  have a2:=u k (lo + n - 1) a (by omega) (by omega)
  omega
 refine wpS_bind (wpS_reverse ?_)
 have c1:=(Chg.refl (lo:=lo) (hi:=lo + nrem) st).mirror (i:=lo) (j:=lo + n) (Nat.le_refl _) (by omega) (by omega)
 have d1:Dn2 rk (arrOf (setArr st (mirror (arrOf st) lo (lo + n) ((lo + n - lo) / 2)))) lo (lo + (n + 1)):=by
  refine Dn2.like (arr:=arrOf st) ?_ (zbs (by omega) all)
  have d0:Dn2 rk (arrOf st) lo (lo + n):=fun i j a b c=>by rw [all i a (by omega),all j (by omega) c]; exact Int.le_refl _
  exact d0.more (by omega) (by omega)
 generalize setArr st (mirror (arrOf st) lo (lo + n) ((lo + n - lo) / 2))=st1 at c1 d1 ⊢
 rotate_left
 have c1:=Chg.refl (lo:=lo) (hi:=lo + nrem) st
 have d1:Dn2 rk (arrOf st) lo (lo + (n + 1)):=by
  have d0:Dn2 rk (arrOf st) lo (lo + n):=fun i j a b c=>by rw [show i=j by omega]; exact Int.le_refl _
  exact d0.more (by omega) (by omega)
 obtain ⟨st1,hh⟩:∃ st1,st1=st:=⟨_,rfl⟩
 have c1:Chg lo (lo + nrem) st st1:=by rw [hh]; exact c1
 have d1:Dn2 rk (arrOf st1) lo (lo + (n + 1)):=by rw [hh]; exact d1
 rw [<- hh]
 clear hh
 all_goals
  refine wpS_bind (wpS_lift (wpAny_rule ⟨rfl,?_⟩))
  refine wpS_bind (wpS_mono (wpS_forRange (I:=fun x c st'=>∃ neq,c=(none,x,neq)/\Chg lo (lo + nrem) st st'/\Dn2 rk (arrOf st') lo (lo + x)/\neq + 1<=x/\∀ i,lo + x - (neq + 1)<=i->i < lo + x->kAt rk (arrOf st') i=kAt rk (arrOf st') (lo + x - 1))
   (Q:=fun c st'=>∃ m neq,c=(none,m,neq)/\Chg lo (lo + nrem) st st'/\n + 1<=m/\m<=nrem/\Dn2 rk (arrOf st') lo (lo + m)/\neq + 1<=m/\∀ i,lo + m - (neq + 1)<=i->i < lo + m->kAt rk (arrOf st') i=kAt rk (arrOf st') (lo + m - 1)) ?step ?fin ⟨0,rfl,c1,d1,by omega,fun i a b=>by congr 1; omega⟩) ?post)
  case fin =>
   rintro c st' ⟨neq,rfl,a1,a2,a3,a4⟩
   rw [show max (n + 1) nrem=nrem by omega] at a2 a3 a4 ⊢
   exact ⟨nrem,neq,rfl,a1,by omega,Nat.le_refl _,a2,a3,a4⟩
  case step =>
   rintro x c st' hx1 hx2 ⟨neq,rfl,a1,a2,a3,a4⟩
   dsimp only
   have sz:=a1.size
   refine wpS_bind (asc1 a1 (by omega) (by omega) ?_)
   dsimp only
   refine zal (fun e1 => ?_) (fun e1 => ?_)
   ·have e1:kAt rk (arrOf st') (lo + x) < kAt rk (arrOf st') (lo + x - 1):=by simpa using e1
    have d2:Dn2 rk (arrOf st') lo (lo + (x + 1)):=a2.more (by omega) (by omega)
    refine zal (fun e2=>wpS_bind (wpS_reverse (wpS_pure ?_))) (fun e2=>wpS_pure ?_)
    ·exact ⟨0,rfl,a1.mirror (by omega) (by omega) (by omega),d2.like (zbs (by omega) a4),by omega,fun i a b=>by congr 1; omega⟩
    ·exact ⟨0,rfl,a1,d2,by omega,fun i a b=>by congr 1; omega⟩
   ·have e1:kAt rk (arrOf st') (lo + x - 1)<=kAt rk (arrOf st') (lo + x):=by simpa using e1
    refine wpS_bind (asc1 a1 (by omega) (by omega) ?_)
    dsimp only
    refine zal (fun e2=>wpS_pure ?_) (fun e2=>wpS_pure ?_)
    ·exact ⟨x,neq,rfl,a1,hx1,by omega,a2,a3,a4⟩
    ·have e2:kAt rk (arrOf st') (lo + x)<=kAt rk (arrOf st') (lo + x - 1):=by simpa using e2
     refine ⟨neq + 1,rfl,a1,a2.more (by omega) e2,by omega,fun i a b => ?_⟩
     rw [show lo + (x + 1) - 1=lo + x by omega]
     by_cases ei:i=lo + x
     ·rw [ei]
     ·rw [a4 i (by omega) (by omega)]; omega
  case post =>
   rintro ⟨r,m,neq⟩ st' ⟨m',neq',e2,a1,am,am2,a2,a3,a4⟩
   cases e2
   dsimp only
   have sz:=a1.size
   refine zal (fun g2 => ?_) (fun g2 => ?_)
   refine wpS_bind (wpS_reverse ?_)
   have a5:=a1.mirror (i:=lo + m - (neq + 1)) (j:=lo + m) (by omega) (by omega) (by omega)
   have a6:Dn2 rk (arrOf (setArr st' (mirror (arrOf st') (lo + m - (neq + 1)) (lo + m) ((lo + m - (lo + m - (neq + 1))) / 2)))) lo (lo + m):=a2.like (zbs (by omega) a4)
   generalize setArr st' (mirror (arrOf st') (lo + m - (neq + 1)) (lo + m) ((lo + m - (lo + m - (neq + 1))) / 2))=st2 at a5 a6 ⊢
   rotate_left
   have a5:=a1
   have a6:=a2
   clear a1 a2 a3 a4
   generalize st'=st2 at a5 a6 ⊢
   all_goals
    have sz2:=a5.size
    have a7:=a5.mirror (i:=lo) (j:=lo + m) (Nat.le_refl _) (by omega) (by omega)
    have a8:Up2 rk (arrOf (setArr st2 (mirror (arrOf st2) lo (lo + m) ((lo + m - lo) / 2)))) lo (lo + m):=fun i j b1 b2 b3=>by
     show kAt rk (mirror (arrOf st2) lo (lo + m) ((lo + m - lo) / 2)) i<=kAt rk (mirror (arrOf st2) lo (lo + m) ((lo + m - lo) / 2)) j
     rw [zcK (by omega),zcK (by omega),if_pos (by omega),if_pos (by omega)]
     exact a6 _ _ (by omega) (by omega) (by omega)
    refine wpS_bind (wpS_reverse ?_)
    generalize setArr st2 (mirror (arrOf st2) lo (lo + m) ((lo + m - lo) / 2))=st3 at a7 a8 ⊢
    have sz3:=a7.size
    refine wpS_bind (wpS_mono (zgM C (zb3 a7.perm hS) (a7.kind.trans hk) (by omega) (show 1<=m by omega) (by omega) a8 fun x n R b1 b2 r => ?_) ?_)
    ·refine wpS_bind (asc1 a7 (by omega) (by omega) ?_)
     dsimp only
     refine zal (fun e => ?_) (fun e => ?_)
     ·rw [if_pos (by simpa using e)] at r; exact wpS_pure r
     ·rw [if_neg (by simpa using e)] at r; exact wpS_pure r
    rintro ⟨r,k⟩ st4 ⟨e0,k',ek,b1,b2,b3,_⟩
    cases ek
    rw [e0]
    exact wpS_pure (q k _ a7 (by omega) b2 b3)
theorem binSort_ok (C:Ranks prog w A E s kd S rk) {st:SortSt} {lo n ok:Nat} {Q:Bool->SortSt->Prop} (hS:∀ x∈(arrOf st).toList,S x) (hk:kindOf st=kd) (hn:lo + n<=(arrOf st).size) (hok:ok<=n) (u:Up2 rk (arrOf st) lo (lo + ok))
  (q:∀ st',Chg lo (lo + n) st st'->Up2 rk (arrOf st') lo (lo + n)->Q true st'):wpS (model prog w) A E s (binarySort' lo n ok) Q st:=by
 rw [binarySort'_eq]
 refine wpS_bind (wpS_mono (wpS_forRange (I:=fun k c st'=>c=(none,())/\Chg lo (lo + n) st st'/\Up2 rk (arrOf st') lo (lo + min k n)) (Q:=fun c st'=>c=(none,())/\Chg lo (lo + n) st st'/\Up2 rk (arrOf st') lo (lo + n)) ?step ?fin ?init) ?post)
 case post =>
  rintro c st' ⟨rfl,a,b⟩
  exact wpS_pure (q st' a b)
 case init =>
  refine ⟨rfl,Chg.refl _,fun i j a b c => ?_⟩
  by_cases h1:ok=0
  ·rw [show i=j by omega]; exact Int.le_refl _
  ·exact u i j a b (by omega)
 case fin =>
  rintro c st' ⟨rfl,a,b⟩
  refine ⟨rfl,a,?_⟩
  rwa [show min (max (max ok 1) n) n=n by omega] at b
 case step =>
  rintro k c st' hk1 hk2 ⟨rfl,a,b⟩
  rw [show min k n=k by omega] at b
  have sz:=a.size
  refine wpS_bind (wpS_mono (wpS_forRange (I:=fun x c st''=>st''=st'/\∃ l r,c=(none,l,r)/\l<=r/\r<=k/\r - l<=k - x/\(∀ i,i < l->kAt rk (arrOf st') (lo + i)<=kAt rk (arrOf st') (lo + k))/\(∀ i,r<=i->i < k->kAt rk (arrOf st') (lo + k) < kAt rk (arrOf st') (lo + i)))
   (Q:=fun c st''=>st''=st'/\∃ l r,c=(none,l,r)/\l<=k/\(∀ i,i < l->kAt rk (arrOf st') (lo + i)<=kAt rk (arrOf st') (lo + k))/\(∀ i,l<=i->i < k->kAt rk (arrOf st') (lo + k) < kAt rk (arrOf st') (lo + i))) ?istep ?ifin ⟨rfl,0,k,rfl,by omega,by omega,by omega,fun i hi=>by omega,fun i h1 h2=>by omega⟩) ?ipost)
  case ifin =>
   rintro c st'' ⟨rfl,l,r,rfl,b1,b2,b3,b4,b5⟩
   exact ⟨rfl,l,r,rfl,by omega,b4,fun i h1 h2=>b5 i (by omega) h2⟩
  case istep =>
   rintro x c st'' _ hx ⟨rfl,l,r,rfl,b1,b2,b3,b4,b5⟩
   dsimp only
   refine zal (fun e=>wpS_pure ⟨rfl,l,r,rfl,by omega,b4,fun i h1 h2=>b5 i (by omega) h2⟩) (fun e => ?_)
   refine wpS_bind (zgs C (zb3 a.perm hS) (a.kind.trans hk) (by omega) (by omega) ?_)
   dsimp only
   refine zal (fun e1=>wpS_pure ?_) (fun e1=>wpS_pure ?_)
   ·have e1:kAt rk (arrOf st'') (lo + k) < kAt rk (arrOf st'') (lo + (l + r) / 2):=by simpa using e1
    refine ⟨rfl,l,(l + r) / 2,rfl,by omega,by omega,by omega,b4,fun i h1 h2 => ?_⟩
    have:=b (lo + (l + r) / 2) (lo + i) (by omega) (by omega) (by omega)
    omega
   ·have e1:kAt rk (arrOf st'') (lo + (l + r) / 2)<=kAt rk (arrOf st'') (lo + k):=by simpa using e1
    refine ⟨rfl,(l + r) / 2 + 1,r,rfl,by omega,by omega,by omega,fun i h1 => ?_,b5⟩
    have:=b (lo + i) (lo + (l + r) / 2) (by omega) (by omega) (by omega)
    omega
  case ipost =>
   rintro ⟨r0,l,r⟩ st'' ⟨e0,l',r',e,b2,b4,b5⟩
   cases e
   rw [e0]
   dsimp only
   rw [moveDown'_eq]
   refine wpS_bind (wpS_modify (wpS_pure ⟨rfl,a.bubble (by omega) (by omega) (by omega),?_⟩))
   rw [show min (k + 1) n=k + 1 by omega]
   intro i j h1 h2 h3
   show kAt rk (bubble (arrOf st') (lo + k) (lo + k - (lo + l))) i<=kAt rk (bubble (arrOf st') (lo + k) (lo + k - (lo + l))) j
   rw [zdI (by omega) (by omega),zdI (by omega) (by omega),show lo + k - (lo + k - (lo + l))=lo + l by omega]
   by_cases e1:i=lo + l
   ·rw [if_pos e1]
    by_cases e2:j=lo + l
    ·rw [if_pos e2]; exact Int.le_refl _
    ·rw [if_neg e2,if_pos (by omega)]
     have:=b5 (j - 1 - lo) (by omega) (by omega)
     rw [show lo + (j - 1 - lo)=j - 1 by omega] at this
     omega
   ·rw [if_neg e1]
    by_cases e3:lo + l < i/\i<=lo + k
    ·rw [if_pos e3,if_neg (by omega),if_pos (by omega)]
     exact b _ _ (by omega) (by omega) (by omega)
    ·rw [if_neg e3]
     by_cases e2:j=lo + l
     ·rw [if_pos e2]
      have:=b4 (i - lo) (by omega)
      rwa [show lo + (i - lo)=i by omega] at this
     ·rw [if_neg e2]
      by_cases e4:lo + l < j/\j<=lo + k
      ·rw [if_pos e4]
       exact b _ _ (by omega) (by omega) (by omega)
      ·rw [if_neg e4]
       exact b _ _ (by omega) (by omega) (by omega)
end
theorem wpS_setSt {M:Model} {A:Around} {E:Value->Shared->Prop} {s:Shared} {σ : Type} {x : σ} {Q:PUnit -> σ -> Prop} {st : σ} (h:Q ⟨⟩ x):wpS M A E s (set x:StateT σ Sem PUnit) Q st:=by
 unfold wpS; rw [StateT.run_set]; exact wpAny_pure ⟨rfl,h⟩
theorem wpS_setLike {M:Model} {A:Around} {E:Value->Shared->Prop} {s:Shared} {x:SortSt} {Q:PUnit->SortSt->Prop} {st:SortSt} (h:∀ st',kindOf st'=kindOf x->arrOf st'=arrOf x->pendingOf st'=pendingOf x->failedOf st'=failedOf x->Q ⟨⟩ st'):wpS M A E s (set x:StateT SortSt Sem PUnit) Q st:=wpS_setSt (h x rfl rfl rfl rfl)
noncomputable abbrev seg (l:List Keyed) (lo n:Nat):List Keyed:=(l.drop lo).take n
theorem mem_seg {l:List Keyed} {lo n:Nat} {y:Keyed} (h:y∈seg l lo n):∃ j,∃ hj:j < l.length,lo<=j/\j < lo + n/\l[j]=y:=by
 obtain ⟨j,hj,h1,e⟩:=zbq h
 rw [List.length_drop] at hj
 rw [List.getElem_drop] at e
 exact ⟨lo + j,by omega,by omega,by omega,e⟩
theorem seg_split (l:List Keyed) (lo m n:Nat):seg l lo (m + n)=seg l lo m ++ seg l (lo + m) n:=by
 unfold seg
 rw [List.take_add,List.drop_drop]
theorem seg_whole (l:List Keyed) (lo n:Nat):l=l.take lo ++ seg l lo n ++ l.drop (lo + n):=by
 unfold seg
 conv=>lhs; rw [<- List.take_append_drop lo l,<- List.take_append_drop n (l.drop lo)]
 rw [List.drop_drop,List.append_assoc]
theorem zdY {rk:Keyed->Int} {arr:Array Keyed} {lo hi:Nat} (u:Up2 rk arr lo hi) (h:hi<=arr.size):Srt rk (seg arr.toList lo (hi - lo)):=by
 refine List.pairwise_iff_getElem.mpr fun i j hi1 hj hij => ?_
 have l1:(seg arr.toList lo (hi - lo)).length<=hi - lo:=List.length_take_le _ _
 have:=u (lo + i) (lo + j) (by omega) (by omega) (by omega)
 rw [zaZ (by omega),zaZ (by omega)] at this
 simpa [seg,List.getElem_take,List.getElem_drop] using this
theorem up_seg {rk:Keyed->Int} {arr:Array Keyed} {P L R:List Keyed} (e:arr.toList=P ++ L ++ R) (s:Srt rk L):Up2 rk arr P.length (P.length + L.length):=by
 have hz:arr.size=P.length + L.length + R.length:=by
  rw [<- Array.length_toList,e,List.length_append,List.length_append]
 intro i j h1 h2 h3
 have g:∀ k (hk:P.length<=k) (hk2:k < P.length + L.length),kAt rk arr k=rk (L[k - P.length]'(by omega)):=fun k hk hk2=>by
  rw [zaZ (by omega),<- zap arr (by omega)]
  congr 1
  have:arr.toList[k]?=some (L[k - P.length]'(by omega)):=by
   rw [e,List.getElem?_append_left (by rw [List.length_append]; omega),List.getElem?_append_right hk,List.getElem?_eq_getElem (by omega)]
  rw [List.getElem?_eq_getElem (by rw [Array.length_toList]; omega)] at this
  exact Option.some.inj this
 rw [g i h1 (by omega),g j (by omega) h3]
 by_cases eij:i=j
 ·subst eij; exact Int.le_refl _
 ·exact List.pairwise_iff_getElem.mp s _ _ (by omega) (by omega) (by omega)
theorem zeU (base:Nat):∀ (l:List Keyed) (n:Nat) (arr:Array Keyed),base + n + l.length<=arr.size ->
  ((l.zipIdx n).foldl (fun (a:Array Keyed) (x:Keyed×Nat)=>a.setIfInBounds (base + x.2) x.1) arr).toList=arr.toList.take (base + n) ++ l ++ arr.toList.drop (base + n + l.length)
 | [],n,arr,h=>by simp
 | x :: l,n,arr,h=>by
  rw [List.length_cons] at h
  rw [List.zipIdx_cons,List.foldl_cons,zeU base l (n + 1) _ (by rw [Array.size_setIfInBounds]; omega)]
  dsimp only
  rw [Array.toList_setIfInBounds]
  have hb:base + n < arr.toList.length:=by rw [Array.length_toList]; omega
  have e1:(arr.toList.set (base + n) x).take (base + (n + 1))=arr.toList.take (base + n) ++ [x]:=by
   rw [show base + (n + 1)=base + n + 1 by omega,List.take_succ_eq_append_getElem (by rw [List.length_set]; exact hb),List.getElem_set_self,List.take_set_of_le (Nat.le_refl _)]
  have e2:(arr.toList.set (base + n) x).drop (base + (n + 1) + l.length)=arr.toList.drop (base + n + (x :: l).length):=by
   rw [List.drop_set_of_lt (by omega),List.length_cons]
   congr 1; omega
  rw [e1,e2]
  simp
noncomputable abbrev Pend:=Array (Nat×Nat×Nat)
theorem pend_at {p:Pend} {pre post:List (Nat×Nat×Nat)} {x y:Nat×Nat×Nat} (e:p.toList=pre ++ x :: y :: post):p[pre.length]?=some x/\p[pre.length + 1]?=some y:=by
 constructor
 ·rw [<- Array.getElem?_toList,e]; simp
 ·rw [<- Array.getElem?_toList,e]; simp
theorem pend_new {p:Pend} {pre post:List (Nat×Nat×Nat)} {x y z:Nat×Nat×Nat} (e:p.toList=pre ++ x :: y :: post):((p.setIfInBounds pre.length z).eraseIdxIfInBounds (pre.length + 1)).toList=pre ++ z :: post:=by
 rw [Array.toList_eraseIdxIfInBounds,Array.toList_setIfInBounds,e]
 simp [List.eraseIdx_append_of_length_le]
theorem back_out {arr arr':Array Keyed} {b:Nat} {M:List Keyed} (e:arr'.toList=arr.toList.take b ++ M ++ arr.toList.drop (b + M.length)) (h:b + M.length<=arr.size):∀ i,(i < b\/b + M.length<=i)->arr'[i]?=arr[i]?:=fun i hi=>by
 rw [<- Array.getElem?_toList,<- Array.getElem?_toList,e]
 have lb:(arr.toList.take b).length=b:=by rw [List.length_take,Array.length_toList]; omega
 rcases hi with z | z
 ·rw [List.getElem?_append_left (by rw [List.length_append]; omega),List.getElem?_append_left (by omega),List.getElem?_take_of_lt z]
 ·rw [List.getElem?_append_right (by rw [List.length_append]; omega),List.getElem?_drop,List.length_append,lb]
  congr 1; omega
theorem zcD {M:Model} {A:Around} {E:Value->Shared->Prop} {s:Shared} {f:SortSt->SortSt} {Q:PUnit->SortSt->Prop} {st:SortSt} (h:∀ st',kindOf st'=kindOf (f st)->arrOf st'=arrOf (f st)->pendingOf st'=pendingOf (f st)->failedOf st'=failedOf (f st)->Q ⟨⟩ st'):wpS M A E s (modify f:StateT SortSt Sem PUnit) Q st:=wpS_modify (h _ rfl rfl rfl rfl)
section
variable {prog:Program} {w:World} {A:Around} {E:Value->Shared->Prop} {s:Shared} {kd:SortKind} {S:Keyed->Prop} {rk:Keyed->Int}
structure Mrg (rk:Keyed->Int) (lo hi:Nat) (st st':SortSt) (p':List (Nat×Nat×Nat)):Prop where
 kind:kindOf st'=kindOf st
 fail:failedOf st'=failedOf st
 pend:(pendingOf st').toList=p'
 perm:(arrOf st').Perm (arrOf st)
 out:∀ i,(i < lo\/hi<=i)->(arrOf st')[i]?=(arrOf st)[i]?
 up:Up2 rk (arrOf st') lo hi
theorem mergeAt_ok (C:Ranks prog w A E s kd S rk) {st:SortSt} {sa na p1 nb p2:Nat} {pre post:List (Nat×Nat×Nat)} {Q:Bool->SortSt->Prop} (hS:∀ x∈(arrOf st).toList,S x) (hk:kindOf st=kd) (hf:failedOf st=none) (hp:(pendingOf st).toList=pre ++ (sa,na,p1) :: (sa + na,nb,p2) :: post) (h1:0 < na) (h2:0 < nb) (hz:sa + na + nb<=(arrOf st).size) (ua:Up2 rk (arrOf st) sa (sa + na)) (ub:Up2 rk (arrOf st) (sa + na) (sa + na + nb))
  (q:∀ st',Mrg rk sa (sa + na + nb) st st' (pre ++ (sa,na + nb,p1) :: post)->Q true st'):wpS (model prog w) A E s (mergeAt' pre.length) Q st:=by
 obtain ⟨g1,g2⟩:=pend_at hp
 have hn:=pend_new (z:=(sa,na + nb,p1)) hp
 refine wpS_bind (wpS_get ?_)
 dsimp only
 unfold pendingOf at g1 g2
 rw [g1,g2]
 dsimp only
 refine wpS_bind (wpS_setLike fun st1 k1 a1 q1 f1 => ?_)
 have k1:kindOf st1=kindOf st:=k1
 have a1:arrOf st1=arrOf st:=a1
 have f1:failedOf st1=failedOf st:=f1
 have q1:(pendingOf st1).toList=pre ++ (sa,na + nb,p1) :: post:=by rw [q1]; exact hn
 have hk1:kindOf st1=kd:=k1.trans hk
 have same:Up2 rk (arrOf st) sa (sa + na + nb)->Q true st1:=fun u=>q st1 ⟨k1,f1,q1,a1 ▸ Array.Perm.refl _,fun i _=>by rw [a1],by rw [a1]; exact u⟩
 have hA:=zgN hS
 have i1:sa + na < (arrOf st).size:=by omega
 refine wpS_bind (zaH i1 ?_)
 refine wpS_bind (zbD C (arr:=arrOf st) (hA _ i1) (fun i h _ _=>hA i h) (by omega) (by omega) ua hk1 fun k j1 j2 j3 => ?_)
 dsimp only
 simp only [Bool.false_eq_true,if_false,<- zaZ (rk:=rk) i1] at j2 j3
 refine zal (fun e=>wpS_pure (same ?_)) (fun e => ?_)
 ·have e:na - k=0:=by simpa using e
  intro i j b1 b2 b3
  by_cases e1:j < sa + na
  ·exact ua i j b1 b2 e1
  by_cases e2:sa + na<=i
  ·exact ub i j e2 b2 b3
  have a2:=j2 (i - sa) (by omega)
  rw [show sa + (i - sa)=i by omega] at a2
  have a3:=ub (sa + na) j (Nat.le_refl _) (by omega) b3
  omega
 have e:¬ na - k=0:=by simpa using e
 have hidx:sa + k + (na - k) - 1=sa + na - 1:=by omega
 rw [hidx]
 have i2:sa + na - 1 < (arrOf st).size:=by omega
 refine wpS_bind (zaH i2 ?_)
 refine wpS_bind (zbD C (arr:=arrOf st) (hA _ i2) (fun i h _ _=>hA i h) (by omega) (by omega) ub hk1 fun m j4 j5 j6 => ?_)
 dsimp only
 simp only [if_true,<- zaZ (rk:=rk) i2] at j5 j6
 refine zal (fun e0=>wpS_pure (same ?_)) (fun e0 => ?_)
 ·have e0:m=0:=by simpa using e0
  intro i j b1 b2 b3
  by_cases e1:j < sa + na
  ·exact ua i j b1 b2 e1
  by_cases e2:sa + na<=i
  ·exact ub i j e2 b2 b3
  have a2:=j6 (j - (sa + na)) (by omega) (by omega)
  rw [show sa + na + (j - (sa + na))=j by omega] at a2
  have a3:=ua i (sa + na - 1) b1 (by omega) (by omega)
  omega
 have e0:¬ m=0:=by simpa using e0
 have lL:(arrOf st).toList.length=(arrOf st).size:=Array.length_toList
 have xl:((arrOf st).extract (sa + k) (sa + na)).toList=seg (arrOf st).toList (sa + k) (na - k):=by rw [zaN,show sa + na - (sa + k)=na - k by omega]
 have yl:((arrOf st).extract (sa + na) (sa + na + m)).toList=seg (arrOf st).toList (sa + na) m:=by rw [zaN,Nat.add_sub_cancel_left]
 have xs:((arrOf st).extract (sa + k) (sa + na)).size=na - k:=by rw [Array.size_extract]; omega
 have ys:((arrOf st).extract (sa + na) (sa + na + m)).size=m:=by rw [Array.size_extract]; omega
 have srtX:Srt rk (seg (arrOf st).toList (sa + k) (na - k)):=by
  have:=zdY (lo:=sa + k) (hi:=sa + na) (fun i j b1 b2 b3=>ua i j (by omega) b2 b3) (by omega)
  rwa [show sa + na - (sa + k)=na - k by omega] at this
 have srtY:Srt rk (seg (arrOf st).toList (sa + na) m):=by
  have:=zdY (lo:=sa + na) (hi:=sa + na + m) (fun i j b1 b2 b3=>ub i j (by omega) b2 (by omega)) (by omega)
  rwa [Nat.add_sub_cancel_left] at this
 have atSeg:∀ {lo n:Nat} {y:Keyed},y∈seg (arrOf st).toList lo n->∃ j,lo<=j/\j < lo + n/\j < (arrOf st).size/\rk y=kAt rk (arrOf st) j:=fun {lo n y} hy=>by
  obtain ⟨j,hj,b1,b2,b3⟩:=mem_seg hy
  have hj2:j < (arrOf st).size:=by omega
  refine ⟨j,b1,b2,hj2,?_⟩
  rw [<- b3,zaZ hj2,zap _ hj2]
 have cX:∀ y∈seg (arrOf st).toList (sa + k) (na - k),kAt rk (arrOf st) (sa + na)<=rk y/\rk y<=kAt rk (arrOf st) (sa + na - 1):=fun y hy=>by
  obtain ⟨j,b1,b2,b3,b4⟩:=atSeg hy
  have a2:=j3 (j - sa) (by omega) (by omega)
  rw [show sa + (j - sa)=j by omega] at a2
  have a3:=ua j (sa + na - 1) (by omega) (by omega) (by omega)
  omega
 have cY:∀ y∈seg (arrOf st).toList (sa + na) m,kAt rk (arrOf st) (sa + na)<=rk y/\rk y<=kAt rk (arrOf st) (sa + na - 1):=fun y hy=>by
  obtain ⟨j,b1,b2,b3,b4⟩:=atSeg hy
  have a2:=j5 (j - (sa + na)) (by omega)
  rw [show sa + na + (j - (sa + na))=j by omega] at a2
  have a3:=ub (sa + na) j (by omega) (by omega) (by omega)
  omega
 have fin:∀ (res:Array Keyed) (st2:SortSt),Like st1 st2->MFin rk ((arrOf st).extract (sa + k) (sa + na)).toList ((arrOf st).extract (sa + na) (sa + na + m)).toList res.toList->∀ st3,kindOf st3=kindOf st2->arrOf st3=List.foldl (fun (a:Array Keyed) (x:Keyed×Nat)=>a.setIfInBounds (sa + k + x.2) x.1) (arrOf st2) res.toList.zipIdx->pendingOf st3=pendingOf st2->failedOf st3=failedOf st2->Mrg rk sa (sa + na + nb) st st3 (pre ++ (sa,na + nb,p1) :: post):=fun res st2 hL hM st3 k3 a3 q3 f3=>by
  rw [xl,yl] at hM
  have lM:res.toList.length=na - k + m:=by
   rw [hM.1.length_eq,List.length_append,<- xl,<- yl,Array.length_toList,Array.length_toList,xs,ys]
  rw [hL.2.1,a1] at a3
  have b3:=congrArg Array.toList a3
  rw [zeU (sa + k) res.toList 0 (arrOf st) (by omega),Nat.add_zero] at b3
  have ew:(arrOf st).toList=(arrOf st).toList.take (sa + k) ++ (seg (arrOf st).toList (sa + k) (na - k) ++ seg (arrOf st).toList (sa + na) m) ++ (arrOf st).toList.drop (sa + k + res.toList.length):=by
   rw [lM]
   have:=seg_whole (arrOf st).toList (sa + k) (na - k + m)
   rwa [seg_split,show sa + k + (na - k)=sa + na by omega] at this
  refine ⟨k3.trans (hL.1.trans k1),f3.trans (hL.2.2.2.trans f1),by rw [q3,hL.2.2.1,q1],?_,fun i hi=>back_out b3 (by omega) i (by omega),?_⟩
  ·refine Array.perm_iff_toList_perm.mpr ?_
   rw [b3]
   conv=>rhs; rw [ew]
   exact List.Perm.append_right _ (List.Perm.append_left _ hM.1)
  ·have e1:(arrOf st).toList.take (sa + k)=(arrOf st).toList.take sa ++ seg (arrOf st).toList sa k:=List.take_add
   have e2:(arrOf st).toList.drop (sa + k + res.toList.length)=seg (arrOf st).toList (sa + na + m) (nb - m) ++ (arrOf st).toList.drop (sa + na + nb):=by
    rw [lM,show sa + k + (na - k + m)=sa + na + m by omega]
    unfold seg
    conv=>lhs; rw [<- List.take_append_drop (nb - m) ((arrOf st).toList.drop (sa + na + m))]
    rw [List.drop_drop,show sa + na + m + (nb - m)=sa + na + nb by omega]
   have e3:(arrOf st3).toList=(arrOf st).toList.take sa ++ (seg (arrOf st).toList sa k ++ res.toList ++ seg (arrOf st).toList (sa + na + m) (nb - m)) ++ (arrOf st).toList.drop (sa + na + nb):=by
    rw [b3,e1,e2]; simp
   have cM:∀ y∈res.toList,kAt rk (arrOf st) (sa + na)<=rk y/\rk y<=kAt rk (arrOf st) (sa + na - 1):=fun y hy=>by
    rcases List.mem_append.mp (hM.1.mem_iff.mp hy) with z | z
    ·exact cX y z
    ·exact cY y z
   have cA:∀ y∈seg (arrOf st).toList sa k,rk y<=kAt rk (arrOf st) (sa + na):=fun y hy=>by
    obtain ⟨j,b1,b2,b3,b4⟩:=atSeg hy
    have a2:=j2 (j - sa) (by omega)
    rw [show sa + (j - sa)=j by omega] at a2
    omega
   have cB:∀ y∈seg (arrOf st).toList (sa + na + m) (nb - m),kAt rk (arrOf st) (sa + na - 1)<=rk y/\kAt rk (arrOf st) (sa + na)<=rk y:=fun y hy=>by
    obtain ⟨j,b1,b2,b3,b4⟩:=atSeg hy
    have a2:=j6 (j - (sa + na)) (by omega) (by omega)
    rw [show sa + na + (j - (sa + na))=j by omega] at a2
    have a3:=ub (sa + na) j (by omega) (by omega) (by omega)
    omega
   have sA:Srt rk (seg (arrOf st).toList sa k):=by
    have:=zdY (lo:=sa) (hi:=sa + k) (fun i j b1 b2 b3=>ua i j (by omega) b2 (by omega)) (by omega)
    rwa [Nat.add_sub_cancel_left] at this
   have sB:Srt rk (seg (arrOf st).toList (sa + na + m) (nb - m)):=by
    have:=zdY (lo:=sa + na + m) (hi:=sa + na + nb) (fun i j b1 b2 b3=>ub i j (by omega) b2 (by omega)) (by omega)
    rwa [show sa + na + nb - (sa + na + m)=nb - m by omega] at this
   have sAll:Srt rk (seg (arrOf st).toList sa k ++ res.toList ++ seg (arrOf st).toList (sa + na + m) (nb - m)):=by
    refine List.pairwise_append.mpr ⟨List.pairwise_append.mpr ⟨sA,hM.2,fun x hx y hy=>Int.le_trans (cA x hx) (cM y hy).1⟩,sB,fun x hx y hy => ?_⟩
    rcases List.mem_append.mp hx with z | z
    ·exact Int.le_trans (cA x z) (cB y hy).2
    ·exact Int.le_trans (cM x z).2 (cB y hy).1
   have:=up_seg e3 sAll
   have l1:((arrOf st).toList.take sa).length=sa:=by rw [List.length_take]; omega
   have l2:(seg (arrOf st).toList sa k ++ res.toList ++ seg (arrOf st).toList (sa + na + m) (nb - m)).length=na + nb:=by
    rw [List.length_append,List.length_append,lM]
    unfold seg
    rw [List.length_take,List.length_take,List.length_drop,List.length_drop]
    omega
   rwa [l1,l2,<- Nat.add_assoc] at this
 have x0:0 < ((arrOf st).extract (sa + k) (sa + na)).size:=by omega
 have y0:0 < ((arrOf st).extract (sa + na) (sa + na + m)).size:=by omega
 have hX:Srt rk ((arrOf st).extract (sa + k) (sa + na)).toList:=by rw [xl]; exact srtX
 have hY:Srt rk ((arrOf st).extract (sa + na) (sa + na + m)).toList:=by rw [yl]; exact srtY
 have SX:∀ i (h:i < ((arrOf st).extract (sa + k) (sa + na)).size),S ((arrOf st).extract (sa + k) (sa + na))[i]:=fun i h=>by rw [Array.getElem_extract]; exact hA _ _
 have SY:∀ i (h:i < ((arrOf st).extract (sa + na) (sa + na + m)).size),S ((arrOf st).extract (sa + na) (sa + na + m))[i]:=fun i h=>by rw [Array.getElem_extract]; exact hA _ _
 have Y0:rk (((arrOf st).extract (sa + na) (sa + na + m))[0]'y0)=kAt rk (arrOf st) (sa + na):=by
  rw [zaZ i1,Array.getElem_extract]; rfl
 have XL:rk (((arrOf st).extract (sa + k) (sa + na))[((arrOf st).extract (sa + k) (sa + na)).size - 1]'(by omega))=kAt rk (arrOf st) (sa + na - 1):=by
  rw [zaZ i2,Array.getElem_extract]
  congr 2
  rw [xs]; omega
 have hh0:∀ y∈((arrOf st).extract (sa + k) (sa + na)).toList,rk (((arrOf st).extract (sa + na) (sa + na + m))[0]'y0)<=rk y:=fun y hy=>by
  rw [xl] at hy; rw [Y0]; exact (cX y hy).1
 have hhl:∀ y∈((arrOf st).extract (sa + na) (sa + na + m)).toList,rk y<=rk (((arrOf st).extract (sa + k) (sa + na))[((arrOf st).extract (sa + k) (sa + na)).size - 1]'(by omega)):=fun y hy=>by
  rw [yl] at hy; rw [XL]; exact (cY y hy).2
 refine zal (fun _=>wpS_bind (mergeLo_ok C x0 y0 hX hY SX SY hh0 hhl hk1 fun res st2 hL hM=>wpS_bind (zcD fun st3 k3 a3 q3 f3 => ?_))) (fun _=>wpS_bind (mergeHi_ok C x0 y0 hX hY SX SY hh0 hhl hk1 fun res st2 hL hM=>wpS_bind (zcD fun st3 k3 a3 q3 f3 => ?_)))
 all_goals
  have r:=fin res st2 hL hM st3 k3 a3 q3 f3
  have fl:failedOf st3=none:=r.fail.trans hf
  refine wpS_bind (wpS_get ?_)
  unfold failedOf at fl
  rw [fl]
  exact wpS_pure (q st3 r)
end
noncomputable def Stk (rk:Keyed->Int) (arr:Array Keyed):List (Nat×Nat×Nat)->Nat->Nat->Prop
 | [],a,e=>a=e
 | x :: r,a,e=>x.1=a/\0 < x.2.1/\Up2 rk arr a (a + x.2.1)/\Stk rk arr r (a + x.2.1) e
section
variable {rk:Keyed->Int} {arr arr':Array Keyed}
theorem Stk.le:∀ {l:List (Nat×Nat×Nat)} {a e:Nat},Stk rk arr l a e->a + l.length<=e
 | [],a,e,h=>by have h:a=e:=h; simp; omega
 | x :: r,a,e,⟨h1,h2,h3,h4⟩=>by have:=Stk.le h4; rw [List.length_cons]; omega
theorem Stk.congr:∀ {l:List (Nat×Nat×Nat)} {a e:Nat},(∀ i,a<=i->i < e->kAt rk arr' i=kAt rk arr i)->Stk rk arr l a e->Stk rk arr' l a e
 | [],a,e,_,h=>h
 | x :: r,a,e,hc,⟨h1,h2,h3,h4⟩=>by
  have:=Stk.le h4
  refine ⟨h1,h2,fun i j b1 b2 b3 => ?_,Stk.congr (fun i b1 b2=>hc i (by omega) b2) h4⟩
  rw [hc i b1 (by omega),hc j (by omega) (by omega)]
  exact h3 i j b1 b2 b3
theorem Stk.split:∀ {l m:List (Nat×Nat×Nat)} {a e:Nat},Stk rk arr (l ++ m) a e->∃ b,Stk rk arr l a b/\Stk rk arr m b e
 | [],m,a,e,h=>⟨a,rfl,h⟩
 | x :: r,m,a,e,⟨h1,h2,h3,h4⟩=>by
  obtain ⟨b,g1,g2⟩:=Stk.split h4
  exact ⟨b,⟨h1,h2,h3,g1⟩,g2⟩
theorem Stk.join:∀ {l m:List (Nat×Nat×Nat)} {a b e:Nat},Stk rk arr l a b->Stk rk arr m b e->Stk rk arr (l ++ m) a e
 | [],m,a,b,e,h,k=>by have h:a=b:=h; rw [h]; exact k
 | x :: r,m,a,b,e,⟨h1,h2,h3,h4⟩,k=>⟨h1,h2,h3,Stk.join h4 k⟩
theorem Stk.mod {f:Nat×Nat×Nat->Nat×Nat×Nat} (hf:∀ x,(f x).1=x.1/\(f x).2.1=x.2.1):∀ {l:List (Nat×Nat×Nat)} {i a e:Nat},Stk rk arr l a e->Stk rk arr (l.modify i f) a e
 | [],i,a,e,h=>by cases i <;> simpa [List.modify_nil] using h
 | x :: r,0,a,e,⟨h1,h2,h3,h4⟩=>by
  show Stk rk arr (f x :: r) a e
  refine ⟨(hf x).1.trans h1,?_,?_,?_⟩
  ·rw [(hf x).2]; exact h2
  ·rw [(hf x).2]; exact h3
  ·rw [(hf x).2]; exact h4
 | x :: r,i + 1,a,e,⟨h1,h2,h3,h4⟩=>⟨h1,h2,h3,Stk.mod hf h4⟩
theorem two_at {α : Type} {l:List α} {i:Nat} (h:i + 1 < l.length):∃ pre x y post,l=pre ++ x :: y :: post/\pre.length=i:=by
 refine ⟨l.take i,l[i]'(by omega),l[i + 1],l.drop (i + 2),?_,by rw [List.length_take]; omega⟩
 conv=>lhs; rw [<- List.take_append_drop i l]
 rw [List.drop_eq_getElem_cons (show i < l.length by omega),List.drop_eq_getElem_cons h]
end
section
variable {prog:Program} {w:World} {A:Around} {E:Value->Shared->Prop} {s:Shared} {kd:SortKind} {S:Keyed->Prop} {rk:Keyed->Int}
structure Stg (rk:Keyed->Int) (kd:SortKind) (a₀ : Array Keyed) (st:SortSt) (e:Nat):Prop where
 kind:kindOf st=kd
 fail:failedOf st=none
 perm:(arrOf st).Perm a₀
 stk:Stk rk (arrOf st) (pendingOf st).toList 0 e
 le:e<=a₀.size
theorem zc5 (C:Ranks prog w A E s kd S rk) {a₀ : Array Keyed} {st:SortSt} {i e:Nat} {Q:Bool->SortSt->Prop} (hS:∀ x∈a₀.toList,S x) (g:Stg rk kd a₀ st e) (hi:i + 1 < (pendingOf st).size)
  (q:∀ st',Stg rk kd a₀ st' e->(pendingOf st').size + 1=(pendingOf st).size->(∀ j,e<=j->(arrOf st')[j]?=(arrOf st)[j]?)->Q true st'):wpS (model prog w) A E s (mergeAt' i) Q st:=by
 obtain ⟨pre,⟨sa,na,p1⟩,⟨sb,nb,p2⟩,post,hp,rfl⟩:=two_at (l:=(pendingOf st).toList) (i:=i) (by rw [Array.length_toList]; exact hi)
 have hs:=g.stk
 rw [hp] at hs
 obtain ⟨b,s1,e1,n1,u1,e2,n2,u2,s2⟩:=hs.split
 dsimp only at e1 n1 u1 e2 n2 u2 s2
 subst e1 e2
 have sz:=g.perm.size_eq
 have l2:=s2.le
 have le:=g.le
 refine mergeAt_ok C (zb3 g.perm hS) g.kind g.fail hp n1 n2 (by omega) u1 u2 fun st' m => ?_
 refine q st' ⟨m.kind.trans g.kind,m.fail.trans g.fail,m.perm.trans g.perm,?_,g.le⟩ ?_ fun j hj=>m.out j (.inr (by omega))
 ·rw [m.pend]
  refine Stk.join (b:=sa) (s1.congr fun i b1 b2=>za0 (m.out i (.inl b2))) ⟨rfl,by show 0 < na + nb; omega,?_,?_⟩
  ·have:=m.up; show Up2 rk _ sa (sa + (na + nb)); rwa [<- Nat.add_assoc]
  ·show Stk rk _ post (sa + (na + nb)) e
   rw [<- Nat.add_assoc]
   exact s2.congr fun i b1 b2=>za0 (m.out i (.inr b1))
 ·rw [<- Array.length_toList,<- Array.length_toList,m.pend,hp,List.length_append,List.length_append,List.length_cons,List.length_cons,List.length_cons]
  omega
theorem sortRuns_ok (C:Ranks prog w A E s kd S rk) {st:SortSt} {Q:Unit->SortSt->Prop} (hS:∀ x∈(arrOf st).toList,S x) (hk:kindOf st=kd) (hf:failedOf st=none) (hp:pendingOf st = #[]) (h2:2<=(arrOf st).size)
  (q:∀ st',(arrOf st').Perm (arrOf st)->failedOf st'=none->Up2 rk (arrOf st') 0 (arrOf st).size->Q () st'):wpS (model prog w) A E s sortRuns' Q st:=by
 rw [sortRuns'_eq]
 refine wpS_bind (wpS_get ?_)
 dsimp only
 obtain ⟨a₀,ha⟩:∃ a,a=arrOf st:=⟨_,rfl⟩
 have g0:Stg rk kd a₀ st 0:=⟨hk,hf,ha ▸ Array.Perm.refl _,by rw [hp]; exact rfl,Nat.zero_le _⟩
 rw [<- ha] at hS h2 ⊢
 rw [<- ha] at q
 refine wpS_bind (wpS_mono (wpS_forRange (I:=fun x c st'=>∃ lo,c=(none,lo)/\Stg rk kd a₀ st' lo/\(x<=lo\/lo=a₀.size)) (Q:=fun c st'=>∃ lo,c=(none,lo)/\Stg rk kd a₀ st' lo/\lo=a₀.size) ?step ?fin ⟨0,rfl,g0,.inl (Nat.zero_le _)⟩) ?post)
 case fin =>
  rintro c st' ⟨lo,rfl,g,h⟩
  have:=g.le
  exact ⟨lo,rfl,g,by omega⟩
 case step =>
  rintro x c st1 _ hx ⟨lo,rfl,g,hlo⟩
  dsimp only
  have gle:=g.le
  refine zal (fun e=>wpS_pure ⟨lo,rfl,g,by omega⟩) (fun e => ?_)
  have sz:=g.perm.size_eq
  refine wpS_bind (countRun_ok C (zb3 g.perm hS) g.kind (by omega) (by omega) fun n st2 c2 n1 n2 u2 => ?_)
  have keep:∀ {st2:SortSt},Chg lo a₀.size st1 st2->Stg rk kd a₀ st2 lo:=fun c2=>⟨c2.kind.trans g.kind,c2.fail.trans g.fail,c2.perm.trans g.perm,by rw [c2.pend]; exact g.stk.congr fun i b1 b2=>za0 (c2.out i (.inl b2)),g.le⟩
  have c2':Chg lo a₀.size st1 st2:=c2.wide (Nat.le_refl _) (by omega)
  have g2:=keep c2'
  have sz2:=g2.perm.size_eq
  dsimp only
  refine zal (fun hm=>wpS_bind (wpS_lift (wpAny_rule ⟨rfl,wpS_bind (binSort_ok C (zb3 g2.perm hS) g2.kind (by omega) (by omega) u2 fun st3 c3 u3 => ?_)⟩))) (fun hm => ?_)
  simp only [Bool.not_true,Bool.false_eq_true,if_false]
  have g3:=keep (c2'.trans (c3.wide (Nat.le_refl _) (by omega)))
  generalize hn3:min (a₀.size - lo) (minRun' a₀.size a₀.size 0)=n3 at u3 ⊢
  have n31:1<=n3:=by omega
  have n32:lo + n3<=a₀.size:=by omega
  rotate_left
  have g3:=g2
  have u3:=u2
  have n31:=n1
  have n32:lo + n<=a₀.size:=by omega
  clear c2 c2' u2 g2 n2 n1 hm sz2
  generalize st2=st3 at g3 u3 ⊢
  generalize n=n3 at u3 n31 n32 ⊢
  all_goals
   have push:∀ {st4:SortSt},Stg rk kd a₀ st4 lo->Up2 rk (arrOf st4) lo (lo + n3)->Stg rk kd a₀ (setPending st4 ((pendingOf st4).push (lo,n3,0))) (lo + n3):=fun {st4} g4 u4=>⟨g4.kind,g4.fail,g4.perm,by
    show Stk rk (arrOf st4) ((pendingOf st4).push (lo,n3,0)).toList 0 (lo + n3)
    rw [Array.toList_push]
    exact g4.stk.join ⟨rfl,n31,u4,rfl⟩,n32⟩
   refine wpS_bind (wpS_get ?_)
   cases hb:(pendingOf st3).back? with
   | none=>exact wpS_bind (wpS_modify (wpS_pure ⟨lo + n3,rfl,push g3 u3,by omega⟩))
   | some t =>
    obtain ⟨s1,n1',pp⟩:=t
    dsimp only
    refine wpS_bind (wpS_mono (wpS_forRange (I:=fun _ c st'=>c=(none,())/\Stg rk kd a₀ st' lo/\Up2 rk (arrOf st') lo (lo + n3)) (Q:=fun c st'=>c=(none,())/\Stg rk kd a₀ st' lo/\Up2 rk (arrOf st') lo (lo + n3)) ?_ (fun _ _ h=>h) ⟨rfl,g3,u3⟩) ?_)
    ·rintro y c st4 _ _ ⟨rfl,g4,u4⟩
     refine wpS_bind (wpS_get ?_)
     by_cases hps:(pendingOf st4).size > 1
     ·rw [if_pos hps]
      cases hq:(pendingOf st4)[(pendingOf st4).size - 2]? with
      | none=>exact wpS_pure ⟨rfl,g4,u4⟩
      | some t =>
       obtain ⟨t1,t2,older⟩:=t
       dsimp only
       refine zal (fun _=>wpS_pure ⟨rfl,g4,u4⟩) (fun _=>wpS_bind (zc5 C hS g4 (by omega) fun st5 g5 _ o5 => ?_))
       simp only [Bool.not_true,Bool.false_eq_true,if_false]
       refine wpS_pure ⟨rfl,g5,fun i j b1 b2 b3 => ?_⟩
       rw [za0 (o5 i b1),za0 (o5 j (by omega))]
       exact u4 i j b1 b2 b3
     ·rw [if_neg hps]
      exact wpS_pure ⟨rfl,g4,u4⟩
    ·rintro c st4 ⟨rfl,g4,u4⟩
     dsimp only
     refine wpS_bind (zcD fun st5 k5 a5 q5 f5=>wpS_bind (wpS_modify (wpS_pure ⟨lo + n3,rfl,push (st4:=st5) ?_ ?_,by omega⟩)))
     ·refine ⟨k5.trans g4.kind,f5.trans g4.fail,by rw [a5]; exact g4.perm,?_,g4.le⟩
      rw [a5,q5]
      show Stk rk (arrOf st4) ((pendingOf st4).modify _ _).toList 0 lo
      rw [Array.toList_modify]
      refine Stk.mod ?_ g4.stk
      exact fun x=>⟨rfl,rfl⟩
     ·rw [a5]; exact u4
 case post =>
  rintro c st1 ⟨lo,rfl,g,rfl⟩
  dsimp only
  have l1:=g.stk.le
  rw [Array.length_toList] at l1
  refine wpS_bind (wpS_mono (wpS_forRange (I:=fun x c st'=>c=(none,())/\Stg rk kd a₀ st' a₀.size/\((pendingOf st').size<=1\/(pendingOf st').size + x<=a₀.size)) (Q:=fun c st'=>c=(none,())/\Stg rk kd a₀ st' a₀.size/\(pendingOf st').size<=1) ?_ ?_ ⟨rfl,g,.inr (by omega)⟩) ?_)
  ·rintro x c st2 _ hx ⟨rfl,g2,hp2⟩
   refine wpS_bind (wpS_get ?_)
   refine zal (fun e=>wpS_pure ⟨rfl,g2,e⟩) (fun e => ?_)
   refine wpS_bind (zc5 C hS g2 ?_ fun st5 g5 z5 o5 => ?_)
   ·by_cases hb:Option.any (fun x=>decide (x < Option.elim (pendingOf st2)[(pendingOf st2).size - 2 + 1]? 0 fun x=>x.2.1)) (if (pendingOf st2).size - 2 > 0 then Option.map (fun x=>x.2.1) (pendingOf st2)[(pendingOf st2).size - 2 - 1]? else none)=true
    ·rw [if_pos hb]; omega
    ·rw [if_neg hb]; omega
   ·simp only [Bool.not_true,Bool.false_eq_true,if_false]
    exact wpS_pure ⟨rfl,g5,by omega⟩
  ·rintro c st2 ⟨rfl,g2,hp2⟩
   exact ⟨rfl,g2,by omega⟩
  ·rintro c st2 ⟨rfl,g2,hp2⟩
   refine wpS_pure (q st2 g2.perm g2.fail ?_)
   have hs:=g2.stk
   have hl:(pendingOf st2).toList.length<=1:=by rw [Array.length_toList]; exact hp2
   match hm:(pendingOf st2).toList,hs,hl with
   | [],hs,_=>have hs:0=a₀.size:=hs; omega
   | [x],⟨b1,b2,b3,b4⟩,_ =>
    have b4:0 + x.2.1=a₀.size:=b4
    rwa [b4] at b3
end
end L2
namespace L2
open PySem PySem.Spec PyProof.Rows PySem.W
noncomputable def rkI:Keyed->Int:=fun k=>numOf k.1
section
variable {prog:Program} {w:World} {A:Around} {E:Value->Shared->Prop} {s:Shared}
theorem ranks_int:Ranks prog w A E s oneType' (fun k=>∃ n t,k.1 = .int n t) rkI:=⟨fun {x y st Q} hx hy hk q=>by
 obtain ⟨x1,x2⟩:=x
 obtain ⟨y1,y2⟩:=y
 obtain ⟨n,t,e⟩:=hx
 obtain ⟨m,u,e2⟩:=hy
 dsimp only at e e2
 subst e e2
 rw [lt'_eq]
 refine wpS_bind (wpS_get ?_)
 rw [hk,keyLt'_oneType]
 exact wpS_bind (wpS_lift (wpAny_attempt (oneLt_int ⟨rfl,wpS_pure q⟩)))⟩
theorem sortI {a:Addr} {vs:List Value} {ns:List Int} {n:Nat} {P:PySem.Fin->Shared->Prop} (ho:s.heap.get? a=some (seqObj "list" vs.toArray n)) (hI:IntsAre vs ns) (hb:vs.length<=sizeLine)
  (q:∀ (out:Array Value) (ns':List Int),IntsAre out.toList ns'->ns'.Perm ns->ns'.Pairwise (· <= ·)->P (.done (.ret .none)) { s with heap:=sortedHeap s.heap a vs out }) :
  wpAny (model prog w) A (Builtin.«list.sort» ⟨[.ref a],[]⟩) P E s:=by
 have fin:∀ st':SortSt,(arrOf st').Perm (pairsOf vs)->Up2 rkI (arrOf st') 0 (pairsOf vs).size->P (.done (.ret .none)) { s with heap:=sortedHeap s.heap a vs ((arrOf st').map (·.2)) }:=fun st' hp hs=>by
  obtain ⟨ns',b1,b2,b3⟩:=sorted_out hI hp (fun i j hij hj=>hs i j (Nat.zero_le _) hij hj)
  exact q _ ns' b1 b2 b3
 rw [list_sort_plain]; have hlt:=Heap.lt_size ho
 obtain ⟨e1,o1⟩:∃ e,(s.heap.update a (Obj.mapSeq fun _=>(#[]:Array Value))).get? a=some (seqObj "list" #[] e):=⟨_,get?_update_seq ho fun _ => #[]⟩
 have hz:vs.toArray.size=vs.length:=List.size_toArray
 refine wpAny_bind (listItems_at ho rfl (wpAny_bind (listUpdate_at ho rfl (wpAny_bind (seqEpoch_at o1 rfl (wpAny_bind (wpAny_newTuple (wpAny_bind (wpAny_newList (wpAny_holding ?_) (Nat.zero_le _))) (by show vs.length<=_; omega))))) (by rw [hz]; omega) (Nat.zero_le _))))
 have o6:(((s.heap.update a (Obj.mapSeq fun _=>(#[]:Array Value))).push (seqObj "tuple" vs.toArray 0)).push (seqObj "list" #[] 0)).get? a=some (seqObj "list" #[] e1):=Heap.get?_push_of_some _ (Heap.get?_push_of_some _ o1)
 show wpAny (model prog w) A _ P E { s with heap:=((s.heap.update a (Obj.mapSeq fun _=>(#[]:Array Value))).push (seqObj "tuple" vs.toArray 0)).push (seqObj "list" #[] 0) }; dsimp only
 by_cases h2:vs.toArray.size < 2
 ·rw [if_pos h2,if_pos h2]; refine wpAny_bind (wpAny_pure ?_)
  rw [StateT.run_pure]; refine wpAny_bind (wpAny_pure ?_)
  dsimp only
  refine wpAny_bind (seqEpoch_at o6 rfl (wpAny_bind (listUpdate_at o6 rfl ?_ (Nat.zero_le _) (by rw [Array.size_map]; show (pairsOf vs).size<=_; rw [pairsOf_size]; omega))))
  simp only [bne_self_eq_false,Bool.false_eq_true,if_false]
  refine wpAny_pure (fin (SortSt.mk' general' (vs.toArray.zip vs.toArray) #[] 7 none) (Array.Perm.refl _) fun i j _ hij hj => ?_)
  rw [pairsOf_size] at hj
  rw [show i=j by omega]; exact Int.le_refl _
 ·rw [if_neg h2,if_neg h2]
  have hkk:keyKind' vs.toArray=pure oneType':=by
   match vs,hI,h2 with
   | [],_,h2=>simp at h2
   | [_],_,h2=>simp at h2
   | v₁ :: v₂ :: r,hI,_=>exact keyKind_ints hI
  rw [hkk]
  refine wpAny_bind (wpAny_pure ?_)
  refine wpAny_bind (wpAny_mono (sortRuns_ok (ranks_int (E:=E)) (st:=SortSt.mk' oneType' (vs.toArray.zip vs.toArray) #[] 7 none) (Q:=fun _ st'=>(arrOf st').Perm (pairsOf vs)/\failedOf st'=none/\Up2 rkI (arrOf st') 0 (pairsOf vs).size) hI.intKeys rfl rfl rfl (by show 2<=(pairsOf vs).size; rw [pairsOf_size]; omega) fun st' c1 c2 c3=>⟨c1,c2,c3⟩) ?_ fun _ _ e=>e)
  rintro ⟨⟨⟩,st'⟩ s' ⟨rfl,hp,hf,hs⟩
  dsimp only
  refine wpAny_bind (seqEpoch_at o6 rfl (wpAny_bind (listUpdate_at o6 rfl ?_ (Nat.zero_le _) (by rw [Array.size_map,hp.size_eq,pairsOf_size]; omega))))
  rw [hf]
  simp only [bne_self_eq_false,Bool.false_eq_true,if_false]
  exact wpAny_pure (fin st' hp hs)
end
theorem zdJ:∀ {l:List Value} {ns:List Int},l.length=ns.length->(∀ (j:Nat) (v:Value) (x:Int),l[j]?=some v->ns[j]?=some x->∃ t,v = .int x t)->IntsAre l ns
 | [],[],_,_ => .nil
 | v :: l,x :: ns,hl,h=>by
  obtain ⟨t,rfl⟩:=h 0 v x rfl rfl
  exact .cons _ _ (zdJ (by simpa using hl) fun j u y e1 e2=>h (j + 1) u y (by simpa using e1) (by simpa using e2))
section
variable {X:Cx}
theorem call_sortedDI (hc:X.calm=true):CallR X (.builtin "sorted") (fun xs H Q=>∃ (a:Addr) (kvs:List (Key×V)) (ns:List Int),xs = [V.ref a]/\Rd H a (.dK kvs)/\kvs.map (·.1)=ns.map Sum.inl/\ns.length<=4096 /\
  ∀ p (ns':List Int),H p=none->ns'.Perm ns->ns'.Pairwise (· <= ·)->Q (.ref p) (upd H p (.lst (ns'.map V.int)))):=by
 intro pins s σ H xs us Q I r h
 obtain ⟨a,kvs,ns,rfl,hq,hk,hb,q⟩:=h
 obtain ⟨u,rfl,ru⟩:=zcS r
 cases ru
 obtain ⟨hz,lo,vs,kv,hD⟩:=(show ObjOk X.prog X.w H s.heap a (.dK kvs) from hq.ok I.hok)
 obtain ⟨ep,hat⟩:=hD.dictAt
 have hlen:vs.length=ns.length:=by
  have e1:=kv.length
  have e2:=congrArg List.length hk
  rw [List.length_map,List.length_map] at e2
  omega
 have big:(4096:Nat)<=sizeLine:=by decide
 refine Calls.call_function_entry kind_sorted plain_sorted entry_sorted (args_sorted1 _) ?_
 unfold Builtin.«sorted»
 refine wpAny_bind (m:=checkCount "sorted" 1 1 _) (wpAny_pure ?_)
 refine wpAny_bind (PySem.W.kdu_collect (A:=X.A.in1) (PySem.W.kdl_dict (knd:=mixKind X.prog X.w) (kvs:=vs) (ep:=ep) lo) (I.ok.hd hc) hat (by omega) fun h' tk acc hkeep hacc => ?_)
 have hl:acc.toList.length=vs.length:=by rw [Array.length_toList]; exact hacc.1
 have hS:IntsAre acc.toList ns:=by
  refine zdJ (by omega) fun j v x e1 e2 => ?_
  obtain ⟨k,y,e3,hk2⟩:=hacc.2 j v (by rw [<- Array.getElem?_toList]; exact e1)
  obtain ⟨v',e4,_⟩:=kv.get e3
  have e5:(kvs.map (·.1))[j]?=some k:=by rw [List.getElem?_map,e4]; rfl
  rw [hk,List.getElem?_map,e2] at e5
  have e6:Sum.inl x=k:=Option.some.inj e5
  subst e6
  rcases zaF (show keyIs (Sum.inl x) v=true from hk2) with ⟨i,t,e,e7⟩ | ⟨y,t,e,e7⟩
  ·cases e; exact ⟨t,e7⟩
  ·cases e
 refine wpAny_bind (wpAny_newList ?_ (by rw [hl]; omega))
 have hoL:(h'.push (seqObj "list" acc.toList.toArray 0)).get? h'.objs.size=some (seqObj "list" acc.toList.toArray 0):=Heap.get?_push_size _ rfl
 refine wpAny_bind (wpAny_holding (wpAny_call_entry slot_list_sort ⟨_,hoL,rfl⟩ entry_list_sort (sortI hoL hS (by omega) fun out ns' a1 a2 a3=>⟨_,rfl,?_⟩) (args_list_sort _)))
 refine wpAny_pure ⟨_,rfl,?_⟩
 obtain ⟨e,he⟩:=sortedHeap_at (out:=out) hoL
 have I1:Inv X pins σ H { s with heap:=h',toks:=tk }:=I.kept hkeep
 have I2:=Inv.laid (o := .lst (ns'.map V.int)) (a:=h'.objs.size) (h':=sortedHeap (h'.push (seqObj "list" acc.toList.toArray 0)) h'.objs.size acc.toList out) (t':=tk) I1 (fun b o hb=>by
  have lt:=Heap.lt_size hb
  rw [sortedHeap_old (Nat.ne_of_lt lt) (by rw [Heap.size_push]; exact Nat.lt_succ_of_lt lt)]
  exact Heap.get?_push_of_some _ hb) (Nat.le_refl _) (show ObjOk X.prog X.w _ _ _ (.lst (ns'.map V.int)) from ⟨by rw [List.length_map,a2.length_eq]; omega,_,e,zcj a1,by rw [Array.toArray_toList]; exact he⟩)
 exact ⟨.ref h'.objs.size,_,I2,rfl,q _ ns' (I1.hok.fresh (Nat.le_refl _)) a2 a3⟩
end
end L2
namespace L2
open PySem PySem.Spec PyProof.Rows
noncomputable def behN (C:Combs) (l:List Nat):List Nat:=(List.range 128).filter fun s=>l.any fun t=>(stp C t).any fun p=>decide (p.2.toNat=s)
noncomputable def rowN (C:Combs):Nat->List Nat
 | 0 => [0]
 | k + 1=>behN C (rowN C k)
theorem beh_mem {C:Combs} {l:List Nat} {s:Nat}:s∈behN C l ↔ s < 128/\∃ t∈l,∃ p∈stp C t,p.2.toNat=s:=by
 unfold behN
 rw [List.mem_filter,List.mem_range]
 constructor
 ·rintro ⟨h,e⟩
  obtain ⟨t,ht,e⟩:=List.any_eq_true.mp e
  obtain ⟨p,hp,e⟩:=List.any_eq_true.mp e
  exact ⟨h,t,ht,p,hp,of_decide_eq_true e⟩
 ·rintro ⟨h,t,ht,p,hp,e⟩
  exact ⟨h,List.any_eq_true.mpr ⟨t,ht,List.any_eq_true.mpr ⟨p,hp,decide_eq_true e⟩⟩⟩
theorem zgL (C:Combs) (l:List Nat):(behN C l).Pairwise (· < ·):=List.Pairwise.sublist List.filter_sublist List.pairwise_lt_range
theorem ze8 (C:Combs) (l:List Nat):(behN C l).length<=128:=by
 have:=List.length_filter_le (fun s=>l.any fun t=>(stp C t).any fun p=>decide (p.2.toNat=s)) (List.range 128)
 rwa [List.length_range] at this
theorem zf6 (C:Combs):∀ k,(∀ s∈rowN C k,s < 128)/\(rowN C k).length<=128
 | 0=>⟨fun s h=>by rw [show rowN C 0 = [0] from rfl,List.mem_singleton] at h; omega,by show 1<=128; decide⟩
 | k + 1=>⟨fun s h=>(beh_mem.mp h).1,ze8 C _⟩
theorem beh_keys {C:Combs} (g:GC C) {l:List Nat} (hl:∀ t∈l,t < 128) {rs:List Int} (nd:rs.Nodup) (hm:∀ n,n∈rs ↔ ∃ t∈l,∃ p∈stp C t,p.2=n):rs.Perm ((behN C l).map fun s=>((s:Nat):Int)):=by
 refine (List.perm_ext_iff_of_nodup nd ?_).mpr fun n => ?_
 ·refine za4 ?_
  rw [List.pairwise_map]
  exact (zgL C l).imp fun h=>by omega
 ·rw [hm,List.mem_map]
  constructor
  ·rintro ⟨t,ht,p,hp,rfl⟩
   have:=zbT g (hl t ht) hp
   exact ⟨p.2.toNat,beh_mem.mpr ⟨this.2,t,ht,p,hp,rfl⟩,by omega⟩
  ·rintro ⟨s,hs,rfl⟩
   obtain ⟨h1,t,ht,p,hp,e⟩:=beh_mem.mp hs
   have:=zbT g (hl t ht) hp
   exact ⟨t,ht,p,hp,by omega⟩
theorem beh_sorted (C:Combs) (l:List Nat):((behN C l).map fun s=>((s:Nat):Int)).Pairwise (· <= ·):=by
 rw [List.pairwise_map]
 exact (zgL C l).imp fun h=>by omega
theorem putK_keys {κ : Type} [DecidableEq κ] (kvs:List (κ × V)) (k : κ) (v:V):(putK kvs k v).map (·.1)=if k∈kvs.map (·.1) then kvs.map (·.1) else kvs.map (·.1) ++ [k]:=by
 unfold putK
 by_cases h:(kvs.any fun kv=>decide (kv.1=k))=true
 ·rw [if_pos h,if_pos (valV_mem.mp (by rw [<- zbE]; exact h)),List.map_map]
  refine List.map_congr_left fun kv _ => ?_
  show (if kv.1=k then (kv.1,v) else kv).1=kv.1
  split <;> rfl
 ·rw [if_neg h,if_neg (fun z=>h (by rw [zbE]; exact valV_mem.mpr z)),List.map_append]
  rfl
noncomputable def ov (al:Nat->Nat->Bool) (i p:Nat):Nat:=if p < i then 1 else ind (al i (p - i))
section
variable {al ta:Nat->Nat->Bool}
noncomputable def cn (nm:Nat->Str) (i:Nat):Nat:=(laid nm i).length
end
theorem laid_up (nm:Nat->Str) (n:Nat):(laid nm n).Pairwise (· < ·):=List.Pairwise.sublist List.filter_sublist List.pairwise_lt_range
theorem zgo {n j:Nat} (f:Nat->V) (v:V) (h:j < n):((List.range n).map f).set j v=(List.range n).map fun p=>if p=j then v else f p:=by
 refine List.ext_getElem? fun i => ?_
 rw [List.getElem?_set,List.getElem?_map,List.length_map,List.length_range]
 by_cases e:j=i
 ·subst e
  rw [if_pos rfl,if_pos h,List.getElem?_map,List.getElem?_range h,Option.map_some,if_pos rfl]
 ·rw [if_neg e,List.getElem?_map]
  by_cases hi:i < n
  ·rw [List.getElem?_range hi,Option.map_some,Option.map_some,if_neg (fun z=>e z.symm)]
  ·rw [List.getElem?_eq_none (by rw [List.length_range]; omega)]
   rfl
theorem count_teeth {ts:List Int} (nd:ts.Nodup) (h0:∀ t∈ts,0<=t) (i p:Nat):(ts.map fun t=>i + t.toNat).count p=if i<=p then ind (decide (((p - i:Nat):Int)∈ts)) else 0:=by
 have nd2:(ts.map fun t=>i + t.toNat).Nodup:=by
  rw [List.nodup_iff_pairwise_ne,List.pairwise_map]
  rw [List.nodup_iff_pairwise_ne] at nd
  refine List.Pairwise.imp_of_mem (fun {a b} ha hb hab e=>hab ?_) nd
  have:=h0 a ha
  have:=h0 b hb
  omega
 have hm:p∈(ts.map fun t=>i + t.toNat) ↔ i<=p/\((p - i:Nat):Int)∈ts:=by
  rw [List.mem_map]
  constructor
  ·rintro ⟨t,ht,rfl⟩
   have:=h0 t ht
   exact ⟨by omega,by rw [show ((i + t.toNat - i:Nat):Int)=t by omega]; exact ht⟩
  ·rintro ⟨h,ht⟩
   exact ⟨_,ht,by omega⟩
 rw [nd2.count]
 by_cases h:i<=p
 ·rw [if_pos h]
  by_cases h2:((p - i:Nat):Int)∈ts
  ·rw [if_pos (hm.mpr ⟨h,h2⟩),decide_eq_true h2]; rfl
  ·rw [if_neg (fun z=>h2 (hm.mp z).2),decide_eq_false h2]; rfl
 ·rw [if_neg h,if_neg (fun z=>h (hm.mp z).1)]
end L2
namespace L2
open PySem PySem.Spec PyProof.Rows PySem.W
section
variable {prog:Program} {w:World} {A:Around} {E:Value->Shared->Prop} {s:Shared}
end
section
variable {prog:Program} {w:World} {A:Around} {E:Value->Shared->Prop} {s:Shared}
end
section
variable {prog:Program} {w:World} {A:Around} {E:Value->Shared->Prop} {s:Shared} {d:Addr} {o:Obj} {es:Array DictEntry} {ep:Nat}
end
section
variable {X:Cx}
end
section
variable {X:Cx}
end
theorem beh_nd (C:Combs) (l:List Nat):(behN C l).Nodup:=(zgL C l).imp fun h=>Nat.ne_of_lt h
end L2
set_option maxHeartbeats 4000000
namespace L2
open PySem PySem.Spec PyProof.Rows PySem.W
section
variable {prog:Program} {w:World} {A:Around} {E:Value->Shared->Prop} {s:Shared}
end
section
variable {prog:Program} {w:World} {A:Around} {E:Value->Shared->Prop} {s:Shared}
end
section
variable {prog:Program} {w:World} {A:Around} {E:Value->Shared->Prop} {s:Shared}
end
section
variable {X:Cx}
end
end L2
namespace L2
open PySem PySem.Spec PyProof.Rows
section
variable {X:Cx} {pins:List (Addr×Obj)} {σ : St} {H:Hp} {s:Shared} {h':Heap}
end
end L2
namespace Att
open PySem PySem.W PySem.Calls PyProof.Rows
end Att
namespace L2
open PySem PySem.Spec PyProof.Rows
section
variable {X:Cx}
end
theorem zaR {s d:Nat} (hs:s < 128):((d:Nat):Int)∈aheadOf (s:Int) ↔ s.testBit d=true:=by
 rw [mem_ahead]
 constructor
 ·rintro ⟨_,_,h⟩
  simpa using h
 ·intro h
  refine ⟨by omega,Decidable.byContradiction fun z => ?_,by simpa using h⟩
  have h7:7<=d:=by omega
  rw [Nat.testBit_lt_two_pow (Nat.lt_of_lt_of_le hs (show 128<=2 ^ d from Nat.pow_le_pow_right (n:=2) (by decide) h7))] at h
  cases h
theorem zbZ {a b:Nat} (h:∀ d,a.testBit d=b.testBit d):a=b:=Nat.eq_of_testBit_eq h
noncomputable def StB (C:Combs) (s:Nat) (x:Str) (n:Nat):Prop:=(s.testBit 0=true/\x=Str.ofString "" /\ ∀ d,n.testBit d=s.testBit (d + 1))\/(s.testBit 0=false/\∃ c∈C,x=c.1/\(∀ d:Nat,s.testBit d=true->(d:Int) ∉ c.2)/\∀ d,n.testBit d=(s.testBit (d + 1) || decide (((d + 1:Nat):Int)∈c.2)))
theorem zeG {C:Combs} (g:GC C) {s:Nat} (hs:s < 128) {p:Str×List Int} (hp:p∈goesOf C (aheadOf (s:Int))):∃ m:Nat,m < 128/\worth p.2=(m:Int)/\StB C s p.1 m:=by
 obtain ⟨k1,k2,k3,_⟩:=zfJ hs g hp
 refine ⟨(worth p.2).toNat,k1,by omega,?_⟩
 have e:=zfG k3
 generalize (worth p.2).toNat=m at k1 e
 unfold goesOf at hp
 by_cases h0:(0:Int)∈aheadOf (s:Int)
 ·rw [if_pos h0] at hp
  have hp:=List.mem_singleton.mp hp
  refine .inl ⟨(zaR hs).mp h0,by rw [hp],fun d => ?_⟩
  rw [Bool.eq_iff_iff,<- zaR k1,<- zaR hs,<- e,hp,zc7 zb4 (by simp)]
  simp
 ·rw [if_neg h0] at hp
  obtain ⟨c,hc,rfl⟩:=List.mem_map.mp hp
  obtain ⟨hc1,hc2⟩:=List.mem_filter.mp hc
  have hm:meets (aheadOf (s:Int)) c.2=false:=by simpa using hc2
  refine .inr ⟨?_,c,hc1,rfl,fun d hd z=>meets_false.mp hm _ z ((zaR hs).mpr hd),fun d => ?_⟩
  ·cases z:s.testBit 0 with
   | false=>rfl
   | true=>exact absurd ((zaR hs).mpr z) h0
  ·rw [Bool.eq_iff_iff,<- zaR k1,Bool.or_eq_true,decide_eq_true_eq,<- zaR hs,<- e]
   exact zc7 zb4 (zdp (g c hc1)) d
theorem zcm {C:Combs} (g:GC C) {s n:Nat} (hs:s < 128) {x:Str}:(x,(n:Int))∈stp C s ↔ n < 128/\StB C s x n:=by
 rw [<- zdL hs g,List.mem_map]
 constructor
 ·rintro ⟨p,hp,e⟩
  obtain ⟨m,m1,m2,m3⟩:=zeG g hs hp
  injection e with e1 e2
  have:m=n:=by omega
  subst this
  exact ⟨m1,e1 ▸ m3⟩
 ·rintro ⟨hn,h⟩
  have key:∀ p∈goesOf C (aheadOf (s:Int)),p.1=x->(∀ m,worth p.2=(m:Nat)->StB C s p.1 m->m=n)->∃ p∈goesOf C (aheadOf (s:Int)),(p.1,worth p.2)=(x,(n:Int)):=fun p hp e1 e2=>by
   obtain ⟨m,_,m2,m3⟩:=zeG g hs hp
   exact ⟨p,hp,by rw [e1,m2,e2 m m2 m3]⟩
  rcases h with ⟨h0,rfl,hb⟩ | ⟨h0,c,hc,rfl,hx,hb⟩
  ·refine key (Str.ofString "",afterOf (aheadOf (s:Int)) []) ?_ rfl fun m _ hm => ?_
   ·unfold goesOf
    rw [if_pos (show (0:Int)∈aheadOf (s:Int) from (zaR hs).mpr h0)]
    exact List.mem_singleton.mpr rfl
   ·rcases hm with ⟨_,_,hb'⟩ | ⟨h0',_⟩
    ·exact zbZ fun d=>by rw [hb,hb']
    ·rw [h0] at h0'; cases h0'
  ·have n0:(0:Int) ∉ aheadOf (s:Int):=fun z=>by
    have:=(zaR (d:=0) hs).mp z
    rw [h0] at this; cases this
   have hp:(c.1,afterOf (aheadOf (s:Int)) c.2)∈goesOf C (aheadOf (s:Int)):=by
    unfold goesOf
    rw [if_neg n0]
    refine List.mem_map.mpr ⟨c,List.mem_filter.mpr ⟨hc,?_⟩,rfl⟩
    have:meets (aheadOf (s:Int)) c.2=false:=meets_false.mpr fun t ht z=>by
     have h1:=zb4 t z
     obtain ⟨d,rfl⟩:=Int.eq_ofNat_of_zero_le h1.1
     exact hx d ((zaR hs).mp z) ht
    rw [this]; rfl
   obtain ⟨k1,k2,k3,_⟩:=zfJ hs g hp
   have e:=zfG k3
   refine ⟨_,hp,?_⟩
   have e2:(worth (afterOf (aheadOf (s:Int)) c.2)).toNat=n:=by
    refine zbZ fun d => ?_
    rw [Bool.eq_iff_iff,<- zaR k1,hb,Bool.or_eq_true,decide_eq_true_eq,<- zaR hs]
    dsimp only at e ⊢
    rw [<- e]
    exact zc7 zb4 (zdp (g c hc)) d
   dsimp only at k2 e2 ⊢
   rw [<- e2,show (((worth (afterOf (aheadOf (s:Int)) c.2)).toNat:Nat):Int)=worth (afterOf (aheadOf (s:Int)) c.2) by omega]
noncomputable def hit (C:Combs) (x:Nat×Str) (q:Nat):Bool:=decide (x.1<=q) && decide (((q - x.1:Nat):Int)∈tkOf C x.2)
noncomputable def cov (C:Combs) (l:List (Nat×Str)) (q:Nat):Nat:=(l.map fun x=>ind (hit C x q)).sum
theorem zcz (C:Combs) (l:List (Nat×Str)) (x:Nat×Str) (q:Nat):cov C (l ++ [x]) q=cov C l q + ind (hit C x q):=by
 unfold cov
 rw [List.map_append,List.sum_append]
 simp
noncomputable def chs (C:Combs):Nat->List (List (Nat×Str))
 | 0 => [[]]
 | p + 1=>(chs C p).flatMap fun r=>r :: C.map fun c=>r ++ [(p,c.1)]
noncomputable def OkC (C:Combs) (l:List (Nat×Str)) (p:Nat):Prop:=(∀ q,q < p->cov C l q=1)/\∀ q,q < p + 8->cov C l q<=1
noncomputable def shp (C:Combs) (l:List (Nat×Str)) (p:Nat):Nat:=bitSum (fun d=>decide (cov C l (p + d)=1)) 7
theorem zdg {C:Combs}:∀ {p:Nat} {l:List (Nat×Str)},l∈chs C p->∀ x∈l,x.1 < p/\x.2∈C.map (·.1)
 | 0,l,h,x,hx=>by
  rw [List.mem_singleton.mp (show l ∈ [[]] from h)] at hx
  cases hx
 | p + 1,l,h,x,hx=>by
  obtain ⟨r,hr,h⟩:=List.mem_flatMap.mp h
  rcases List.mem_cons.mp h with rfl | h
  ·have:=zdg hr x hx
   exact ⟨by omega,this.2⟩
  ·obtain ⟨c,hc,rfl⟩:=List.mem_map.mp h
   rcases List.mem_append.mp hx with z | z
   ·have:=zdg hr x z
    exact ⟨by omega,this.2⟩
   ·rw [List.mem_singleton.mp z]
    exact ⟨Nat.lt_succ_self _,List.mem_map.mpr ⟨c,hc,rfl⟩⟩
theorem tk_in {C:Combs} (g:GC C) {x:Str} {t:Int} (h:t∈tkOf C x):0<=t/\t<=7:=by
 unfold tkOf at h
 cases e:cGet C x with
 | none=>rw [e] at h; cases h
 | some ts=>rw [e] at h; exact zdp (g _ (zee e)) t h
theorem sum_zero {α : Type} {l:List α} {f : α -> Nat} (h:∀ x∈l,f x=0):(l.map f).sum=0:=by
 induction l with
 | nil=>rfl
 | cons a l ih =>
  rw [List.map_cons,List.sum_cons,h a List.mem_cons_self,ih fun x hx=>h x (List.mem_cons_of_mem _ hx)]
theorem zcg {C:Combs} (g:GC C) {p:Nat} {l:List (Nat×Str)} (h:l∈chs C p) {q:Nat} (hq:p + 7<=q):cov C l q=0:=sum_zero fun x hx=>by
 have:=(zdg h x hx).1
 unfold hit
 rw [decide_eq_false (show ¬ ((q - x.1:Nat):Int)∈tkOf C x.2 from fun z=>by have:=(tk_in g z).2; omega),Bool.and_false]
 rfl
theorem zfW (C:Combs) (l:List (Nat×Str)) (p:Nat):shp C l p < 128:=zcB _ 7
theorem zaV {C:Combs} (g:GC C) {p:Nat} {l:List (Nat×Str)} (h:l∈chs C p) (d:Nat):(shp C l p).testBit d=decide (cov C l (p + d)=1):=by
 unfold shp
 rw [zbJ]
 by_cases hd:d < 7
 ·rw [decide_eq_true hd,Bool.true_and]
 ·rw [decide_eq_false hd,Bool.false_and,zcg g h (by omega)]
  rfl
theorem zgv {C:Combs} (nd:(C.map (·.1)).Nodup) {c:Str×List Int} (hc:c∈C) (p d:Nat):hit C (p,c.1) (p + d)=decide ((d:Int)∈c.2):=by
 unfold hit tkOf
 rw [zcI nd hc]
 simp
theorem hit_below {C:Combs} {p q:Nat} {x:Str} (h:q < p):hit C (p,x) q=false:=by
 unfold hit
 rw [decide_eq_false (show ¬ p<=q by omega),Bool.false_and]
theorem zd3 {C:Combs} {p:Nat} {l:List (Nat×Str)} (hl:l∈chs C p) (g:GC C):OkC C l (p + 1) ↔ OkC C l p/\cov C l p=1:=by
 constructor
 ·rintro ⟨h1,h2⟩
  exact ⟨⟨fun q hq=>h1 q (by omega),fun q hq=>h2 q (by omega)⟩,h1 p (by omega)⟩
 ·rintro ⟨⟨h1,h2⟩,h3⟩
  refine ⟨fun q hq => ?_,fun q hq => ?_⟩
  ·by_cases e:q=p
   ·rw [e]; exact h3
   ·exact h1 q (by omega)
  ·by_cases e:q < p + 8
   ·exact h2 q e
   ·rw [zcg g hl (by omega)]; omega
theorem zd2 {C:Combs} {p:Nat} {l:List (Nat×Str)} (hl:l∈chs C p) (g:GC C) (nd:(C.map (·.1)).Nodup) {c:Str×List Int} (hc:c∈C):OkC C (l ++ [(p,c.1)]) (p + 1) ↔ OkC C l p/\cov C l p=0/\∀ d:Nat,cov C l (p + d)=1->(d:Int) ∉ c.2:=by
 have e1:∀ q,q < p->cov C (l ++ [(p,c.1)]) q=cov C l q:=fun q hq=>by rw [zcz,hit_below hq]; rfl
 have e2:∀ d,cov C (l ++ [(p,c.1)]) (p + d)=cov C l (p + d) + ind (decide ((d:Int)∈c.2)):=fun d=>by rw [zcz,zgv nd hc]
 have h0:(0:Int)∈c.2:=zgw (g c hc)
 have e0:cov C (l ++ [(p,c.1)]) p=cov C l p + 1:=by
  have:=e2 0
  rw [decide_eq_true (show ((0:Nat):Int)∈c.2 from h0)] at this
  exact this
 constructor
 ·rintro ⟨h1,h2⟩
  have hp:=h1 p (by omega)
  refine ⟨⟨fun q hq=>by rw [<- e1 q hq]; exact h1 q (by omega),fun q hq => ?_⟩,by omega,fun d hd z => ?_⟩
  ·by_cases e:q < p
   ·rw [<- e1 q e]; exact h2 q (by omega)
   ·have:=h2 q (by omega)
    have e3:=e2 (q - p)
    rw [show p + (q - p)=q by omega] at e3
    omega
  ·have e3:=e2 d
   rw [hd,decide_eq_true z] at e3
   have hd8:d<=7:=by have:=(zdp (g c hc) _ z).2; omega
   have:=h2 (p + d) (by omega)
   rw [e3] at this
   exact absurd this (by decide)
 ·rintro ⟨⟨h1,h2⟩,h3,h4⟩
  refine ⟨fun q hq => ?_,fun q hq => ?_⟩
  ·by_cases e:q=p
   ·rw [e,e0,h3]
   ·rw [e1 q (by omega)]; exact h1 q (by omega)
  ·by_cases e:q < p
   ·rw [e1 q e]; exact h2 q (by omega)
   ·have e3:=e2 (q - p)
    rw [show p + (q - p)=q by omega] at e3
    have hle:cov C l q<=1:=by
     by_cases e':q < p + 8
     ·exact h2 q e'
     ·rw [zcg g hl (by omega)]; omega
    rw [e3]
    by_cases z:((q - p:Nat):Int)∈c.2
    ·have:cov C l q≠1:=fun y=>h4 (q - p) (by rw [show p + (q - p)=q by omega]; exact y) z
     rw [decide_eq_true z]
     show cov C l q + 1<=1
     omega
    ·rw [decide_eq_false z]
     exact hle
section
variable {P:Program} {w:World} {A:Around} {E:Value->Shared->Prop} {s:Shared}
end
noncomputable abbrev NX:=List (List Key)×Addr×V
section
variable {P:Program} {w:World} {H:Hp} {h:Heap} {a b:Addr} {xs:List NX} {ks:List (List Key)}
end
section
variable {X:Cx} {pins:List (Addr×Obj)} {σ : St} {H:Hp} {s:Shared} {a b:Addr} {xs:List NX} {ks:List (List Key)} {A:Around} {E:Value->Shared->Prop}
end
section
variable {X:Cx} {o i e value:Expr} {pos pos' tpos:Pos} {td ty tv:TE}
end
section
variable {X:Cx} {o i e value:Expr} {pos pos' tpos:Pos} {td ty tv:TE}
end
noncomputable def st1 (C:Combs) (s t:Nat):Prop:=∃ p∈stp C s,p.2.toNat=t
noncomputable def rch (C:Combs) (s:Nat):Nat->Nat->Prop
 | 0,t=>t=s
 | n + 1,t=>∃ u,rch C s n u/\st1 C u t
theorem zgW {C:Combs} (g:GC C) {s t:Nat} (hs:s < 128) (h:st1 C s t):t < 128:=by
 obtain ⟨p,hp,rfl⟩:=h
 exact (zbT g hs hp).2
theorem zdD {C:Combs} (g:GC C) {s:Nat} (hs:s < 128):∀ {n t:Nat},rch C s n t->t < 128
 | 0,t,h=>by rw [show t=s from h]; exact hs
 | n + 1,t,⟨u,h1,h2⟩=>zgW g (zdD g hs h1) h2
theorem zdZ {C:Combs} {s m u:Nat} (h:rch C s m u):∀ {n t:Nat},rch C u n t->rch C s (m + n) t
 | 0,t,h2=>by rw [show t=u from h2]; exact h
 | n + 1,t,⟨v,h1,h2⟩=>⟨v,zdZ h h1,h2⟩
theorem zes {C:Combs} {s m:Nat}:∀ {n t:Nat},rch C s (m + n) t->∃ u,rch C s m u/\rch C u n t
 | 0,t,h=>⟨t,h,rfl⟩
 | n + 1,t,⟨v,h1,h2⟩=>by
  obtain ⟨u,a,b⟩:=zes h1
  exact ⟨u,a,v,b,h2⟩
theorem zc1 {C:Combs} (g:GC C):∀ {k t:Nat},t∈rowN C k ↔ rch C 0 k t
 | 0,t=>List.mem_singleton
 | k + 1,t=>by
  rw [show rowN C (k + 1)=behN C (rowN C k) from rfl,beh_mem]
  constructor
  ·rintro ⟨_,u,hu,p,hp,e⟩
   exact ⟨u,(zc1 g).mp hu,p,hp,e⟩
  ·rintro ⟨u,hu,h⟩
   exact ⟨zgW g (zdD g (by decide) hu) h,u,(zc1 g).mpr hu,h⟩
noncomputable def Fil (C:Combs) (n:Nat):Prop:=rch C 0 n 0
theorem zfL (C:Combs):Fil C 0:=rfl
theorem zgC {C:Combs} {m n:Nat} (h1:Fil C m) (h2:Fil C n):Fil C (m + n):=zdZ h1 h2
theorem zgB {C:Combs} {m:Nat} (h:Fil C m):∀ k,Fil C (k * m)
 | 0=>by rw [Nat.zero_mul]; exact zfL C
 | k + 1=>by rw [Nat.add_one_mul]; exact zgC (zgB h k) h
theorem zf8 {C:Combs} {s:Nat}:∀ {n t:Nat},rch C s n t->∃ f:Nat->Nat,f n=t/\∀ i,i<=n->rch C s i (f i)/\rch C (f i) (n - i) t
 | 0,t,h=>⟨fun _=>t,rfl,fun i hi=>by
  have:i=0:=by omega
  subst this
  exact ⟨h,rfl⟩⟩
 | n + 1,t,⟨u,h1,h2⟩=>by
  obtain ⟨f,e,hf⟩:=zf8 h1
  refine ⟨fun i=>if i<=n then f i else t,if_neg (by omega),fun i hi => ?_⟩
  dsimp only
  by_cases z:i<=n
  ·rw [if_pos z]
   refine ⟨(hf i z).1,?_⟩
   rw [show n + 1 - i=n - i + 1 by omega]
   exact ⟨u,(hf i z).2,h2⟩
  ·rw [if_neg z]
   have:i=n + 1:=by omega
   subst this
   rw [Nat.sub_self]
   exact ⟨⟨u,h1,h2⟩,rfl⟩
theorem twice {f:Nat->Nat} (h:∀ i,i<=128->f i < 128):∃ i j,i < j/\j<=128/\f i=f j:=by
 refine Classical.byContradiction fun z => ?_
 have nd:((List.range 129).map f).Nodup:=by
  rw [List.Nodup,List.pairwise_map,List.pairwise_iff_getElem]
  intro i j hi hj hij e
  rw [List.getElem_range,List.getElem_range] at e
  rw [List.length_range] at hj
  exact z ⟨i,j,hij,by omega,e⟩
 have:=zba 128 _ nd (fun x hx=>by
  obtain ⟨i,hi,rfl⟩:=List.mem_map.mp hx
  exact h i (by have:=List.mem_range.mp hi; omega))
 rw [List.length_map,List.length_range] at this
 omega
theorem fil_small {C:Combs} (g:GC C):∀ (n:Nat),Fil C n->1<=n->∃ m,1<=m/\m<=128/\Fil C m:=by
 intro n
 induction n using Nat.strongRecOn with
 | _ n ih =>
  intro h h1
  by_cases hn:n<=128
  ·exact ⟨n,h1,hn,h⟩
  obtain ⟨f,e,hf⟩:=zf8 h
  obtain ⟨i,j,hij,hj,ef⟩:=twice (f:=f) fun i hi=>zdD g (by decide) (hf i (by omega)).1
  have a:=(hf i (by omega)).1
  have b:=(hf j (by omega)).2
  rw [<- ef] at b
  exact ih (i + (n - j)) (by omega) (zdZ a b) (by omega)
theorem zcM {α : Type} {f g : α -> Nat} {l:List α} (h:∀ x∈l,f x=g x):(l.map f).sum=(l.map g).sum:=by
 rw [List.map_congr_left h]
noncomputable def Cover (C:Combs) (l:List (Nat×Str)) (n:Nat):Prop:=∀ q,cov C l q=if q < n then 1 else 0
theorem zfl {C:Combs} (g:GC C) {l:List (Nat×Str)} {n:Nat} (hl:l∈chs C n):(OkC C l n/\shp C l n=0) ↔ Cover C l n:=by
 constructor
 ·rintro ⟨⟨h1,h2⟩,h3⟩ q
  by_cases z:q < n
  ·rw [if_pos z]; exact h1 q z
  ·rw [if_neg z]
   have h4:=zaV g hl (q - n)
   rw [h3,Nat.zero_testBit,show n + (q - n)=q by omega] at h4
   have h5:=of_decide_eq_false h4.symm
   by_cases y:q < n + 8
   ·have:=h2 q y; omega
   ·exact zcg g hl (by omega)
 ·intro h
  refine ⟨⟨fun q hq=>by rw [h q,if_pos hq],fun q _=>by rw [h q]; split <;> omega⟩,zbZ fun d => ?_⟩
  rw [zaV g hl,h,if_neg (by omega),Nat.zero_testBit]
  rfl
noncomputable def Fst (C:Combs) (t ℓ s:Nat):Prop:=rch C 0 ℓ s/\∀ ℓ',ℓ' < ℓ -> ℓ' % t = ℓ % t->¬ rch C 0 ℓ' s
theorem ze3 {C:Combs} {t ℓ u:Nat} (h:Fst C t (ℓ + 1) u):∃ s,Fst C t ℓ s/\st1 C s u:=by
 obtain ⟨⟨s,h1,h2⟩,h3⟩:=h
 refine ⟨s,⟨h1,fun ℓ' hl hm hr=>h3 (ℓ' + 1) (by omega) ?_ ⟨s,hr,h2⟩⟩,h2⟩
 rw [Nat.add_mod,hm,<- Nat.add_mod]
theorem fst_down {C:Combs} {t:Nat} {ℓ u:Nat}:∀ k,Fst C t (ℓ + k) u->∃ s,Fst C t ℓ s
 | 0,h=>⟨u,h⟩
 | k + 1,h=>by
  have h:Fst C t (ℓ + k + 1) u:=h
  obtain ⟨s,h1,_⟩:=ze3 h
  exact fst_down' k h1
where fst_down' {C:Combs} {t:Nat} {ℓ : Nat}:∀ {u:Nat} (k:Nat),Fst C t (ℓ + k) u->∃ s,Fst C t ℓ s
 | u,0,h=>⟨u,h⟩
 | u,k + 1,h=>by
  obtain ⟨s,h1,_⟩:=ze3 (show Fst C t (ℓ + k + 1) u from h)
  exact fst_down' k h1
theorem rch_fst {C:Combs} {t:Nat}:∀ (n:Nat) {s:Nat},rch C 0 n s->∃ ℓ,ℓ <= n /\ ℓ % t=n % t/\Fst C t ℓ s:=by
 intro n
 induction n using Nat.strongRecOn with
 | _ n ih =>
  intro s h
  by_cases z:∀ ℓ',ℓ' < n -> ℓ' % t=n % t->¬ rch C 0 ℓ' s
  ·exact ⟨n,Nat.le_refl _,rfl,h,z⟩
  ·have:∃ ℓ',ℓ' < n /\ ℓ' % t=n % t/\rch C 0 ℓ' s:=Classical.byContradiction fun y=>z fun ℓ' a b c=>y ⟨ℓ',a,b,c⟩
   obtain ⟨ℓ',a,b,c⟩:=this
   obtain ⟨ℓ,h1,h2,h3⟩:=ih ℓ' a c
   exact ⟨ℓ,by omega,by omega,h3⟩
noncomputable def LeastL (C:Combs) (t N:Nat) (l:List (Nat×Nat)):Prop:=(l.map (·.1)).Nodup/\∀ r ℓ,(r,ℓ)∈l ↔ ℓ < N/\r = ℓ % t/\Fst C t ℓ 0
theorem least_fil {C:Combs} {t N:Nat} (ht:Fil C t) {l:List (Nat×Nat)} (h:LeastL C t N l) (hN:∀ s,¬ Fst C t N s) (n:Nat):Fil C n ↔ ∃ ℓ,(n % t,ℓ)∈l /\ ℓ <= n:=by
 constructor
 ·intro hf
  obtain ⟨ℓ,h1,h2,h3⟩:=rch_fst (t:=t) n hf
  refine ⟨ℓ,(h.2 _ _).mpr ⟨?_,h2.symm,h3⟩,h1⟩
  refine Decidable.byContradiction fun z => ?_
  have : ℓ = N + (ℓ - N):=by omega
  rw [this] at h3
  obtain ⟨s,hs⟩:=fst_down (ℓ - N) h3
  exact hN s hs
 ·rintro ⟨ℓ,h1,h2⟩
  obtain ⟨_,h3,h4⟩:=(h.2 _ _).mp h1
  have e:n=n / t * t - ℓ / t * t + ℓ := by
   have a:=Nat.div_add_mod n t
   have b:=Nat.div_add_mod ℓ t
   have c : ℓ / t<=n / t:=Nat.div_le_div_right h2
   have d : ℓ / t * t<=n / t * t:=Nat.mul_le_mul_right _ c
   rw [Nat.mul_comm] at a b
   omega
  rw [e,<- Nat.mul_sub_right_distrib]
  exact zgC (zgB ht _) h4.1
noncomputable def Wy (C:Combs):Nat->Nat->Nat
 | 0,s=>if s=0 then 1 else 0
 | k + 1,s=>((stp C s).map fun p=>Wy C k p.2.toNat).sum
noncomputable def bh (x:Str) (A B:Nat->Nat) (p:Str×Int):Nat:=if p.1=x then A p.2.toNat else B p.2.toNat
noncomputable def Ww (C:Combs) (x:Str):Nat->Nat->Nat
 | 0,_=>0
 | k + 1,s=>((stp C s).map (bh x (Wy C k) (Ww C x k))).sum
theorem sum_pos {α : Type} {l:List α} {f : α -> Nat}:0 < (l.map f).sum ↔ ∃ x∈l,0 < f x:=by
 induction l with
 | nil=>simp
 | cons a l ih =>
  rw [List.map_cons,List.sum_cons]
  constructor
  ·intro h
   by_cases z:0 < f a
   ·exact ⟨a,List.mem_cons_self,z⟩
   ·obtain ⟨x,hx,h'⟩:=ih.mp (by omega)
    exact ⟨x,List.mem_cons_of_mem _ hx,h'⟩
  ·rintro ⟨x,hx,h⟩
   rcases List.mem_cons.mp hx with rfl | hx
   ·omega
   ·have:=ih.mpr ⟨x,hx,h⟩
    omega
theorem Wy_pos {C:Combs}:∀ {k s:Nat},0 < Wy C k s ↔ rch C s k 0
 | 0,s=>by
  show 0 < (if s=0 then 1 else 0) ↔ 0=s
  by_cases h:s=0
  ·rw [if_pos h]; exact ⟨fun _=>h.symm,fun _=>by omega⟩
  ·rw [if_neg h]; exact ⟨fun z=>by omega,fun z=>absurd z.symm h⟩
 | k + 1,s=>by
  show 0 < ((stp C s).map fun p=>Wy C k p.2.toNat).sum ↔ _
  rw [sum_pos]
  constructor
  ·rintro ⟨p,hp,h⟩
   have h1:rch C s 1 p.2.toNat:=⟨s,rfl,p,hp,rfl⟩
   have:=zdZ h1 (Wy_pos.mp h)
   rwa [Nat.add_comm] at this
  ·intro h
   rw [Nat.add_comm] at h
   obtain ⟨u,⟨v,e,p,hp,hu⟩,h2⟩:=zes h
   rw [show v=s from e] at hp
   subst hu
   exact ⟨p,hp,Wy_pos.mpr h2⟩
structure Sel (C:Combs) (x:Str) (B:Nat->Nat->Nat):Prop where
 zero:∀ s,0 < B 0 s->s=0
 succ:∀ k s,B (k + 1) s=((stp C s).map (bh x (Wy C k) (B k))).sum
noncomputable def ro (C:Combs) (B:Nat->Nat->Nat) (fl:Bool) (k:Nat):Nat->Nat:=if fl=true then Wy C k else B k
noncomputable def sel (C:Combs) (x:Str) (B:Nat->Nat->Nat) (s:Nat) (fl:Bool) (k:Nat):Option (Str×Int):=(stp C s).find? fun p=>decide (0 < bh x (Wy C k) (ro C B fl k) p)
noncomputable def fw (C:Combs) (x:Str) (B:Nat->Nat->Nat) (n:Nat):Nat->Nat×Bool
 | 0=>(0,false)
 | i + 1=>match sel C x B (fw C x B n i).1 (fw C x B n i).2 (n - 1 - i) with
  | some p=>(p.2.toNat,(fw C x B n i).2 || decide (p.1=x))
  | none=>(0,false)
noncomputable def fnm (C:Combs) (x:Str) (B:Nat->Nat->Nat) (n i:Nat):Str:=((sel C x B (fw C x B n i).1 (fw C x B n i).2 (n - 1 - i)).map (·.1)).getD (Str.ofString "")
theorem zgS (C:Combs) (x:Str):Sel C x (Wy C):=by
 refine ⟨fun s h => ?_,fun k s => ?_⟩
 ·have:0 < (if s=0 then 1 else 0):=h
  by_cases z:s=0
  ·exact z
  ·rw [if_neg z] at this; omega
 ·show ((stp C s).map fun p=>Wy C k p.2.toNat).sum=_
  refine zcM fun p _ => ?_
  unfold bh
  split <;> rfl
theorem zhu (C:Combs) (x:Str):Sel C x (Ww C x):=⟨fun s h=>absurd h (Nat.lt_irrefl 0),fun k s=>rfl⟩
theorem zeX {C:Combs} {x:Str} {B:Nat->Nat->Nat} (S:Sel C x B) (fl:Bool) (k s:Nat):ro C B fl (k + 1) s=((stp C s).map (bh x (Wy C k) (ro C B fl k))).sum:=by
 cases fl with
 | false=>exact S.succ k s
 | true=>exact (zgS C x).succ k s
theorem zfn {C:Combs} (g:GC C) {x:Str} {B:Nat->Nat->Nat} (S:Sel C x B) {s k:Nat} (hs:s < 128) {fl:Bool} (h:0 < ro C B fl (k + 1) s):∃ p,sel C x B s fl k=some p/\p∈stp C s/\0<=p.2/\p.2.toNat < 128/\0 < ro C B (fl || decide (p.1=x)) k p.2.toNat:=by
 rw [zeX S,sum_pos] at h
 obtain ⟨p,hp,h1⟩:=h
 cases e:sel C x B s fl k with
 | none =>
  unfold sel at e
  rw [List.find?_eq_none] at e
  exact absurd (decide_eq_true h1) (e p hp)
 | some p' =>
  unfold sel at e
  have h2:=List.find?_some e
  have h3:=List.mem_of_find?_eq_some e
  have h4:=zbT g hs h3
  refine ⟨p',rfl,h3,h4.1,h4.2,?_⟩
  have h5:=of_decide_eq_true h2
  unfold bh at h5
  by_cases z:p'.1=x
  ·rw [if_pos z] at h5
   rw [decide_eq_true z,Bool.or_true]
   exact h5
  ·rw [if_neg z] at h5
   rw [decide_eq_false z,Bool.or_false]
   exact h5
theorem zhr {C:Combs} (g:GC C) {x:Str} {B:Nat->Nat->Nat} (S:Sel C x B) {n:Nat} (h:0 < B n 0):∀ i,i<=n->(fw C x B n i).1 < 128/\0 < ro C B (fw C x B n i).2 (n - i) (fw C x B n i).1
 | 0,_=>⟨show 0 < 128 by decide,h⟩
 | i + 1,hi=>by
  obtain ⟨h1,h2⟩:=zhr g S h i (by omega)
  rw [show n - i=n - 1 - i + 1 by omega] at h2
  obtain ⟨p,e,_,_,p3,p4⟩:=zfn g S h1 h2
  have ef:fw C x B n (i + 1)=(p.2.toNat,(fw C x B n i).2 || decide (p.1=x)):=by
   show (match sel C x B (fw C x B n i).1 (fw C x B n i).2 (n - 1 - i) with
    | some p=>(p.2.toNat,(fw C x B n i).2 || decide (p.1=x))
    | none=>(0,false))=_
   rw [e]
  rw [ef,show n - (i + 1)=n - 1 - i by omega]
  exact ⟨p3,p4⟩
theorem zgy {C:Combs} (g:GC C) {x:Str} {B:Nat->Nat->Nat} (S:Sel C x B) {n:Nat} (h:0 < B n 0) {i:Nat} (hi:i < n):sel C x B (fw C x B n i).1 (fw C x B n i).2 (n - 1 - i)=some (fnm C x B n i,((fw C x B n (i + 1)).1:Int))/\(fw C x B n (i + 1)).2=((fw C x B n i).2 || decide (fnm C x B n i=x))/\(fnm C x B n i,((fw C x B n (i + 1)).1:Int))∈stp C (fw C x B n i).1:=by
 obtain ⟨h1,h2⟩:=zhr g S h i (by omega)
 rw [show n - i=n - 1 - i + 1 by omega] at h2
 obtain ⟨p,e,p1,p2,p3,p4⟩:=zfn g S h1 h2
 have ef:fw C x B n (i + 1)=(p.2.toNat,(fw C x B n i).2 || decide (p.1=x)):=by
  show (match sel C x B (fw C x B n i).1 (fw C x B n i).2 (n - 1 - i) with
   | some p=>(p.2.toNat,(fw C x B n i).2 || decide (p.1=x))
   | none=>(0,false))=_
  rw [e]
 have en:fnm C x B n i=p.1:=by unfold fnm; rw [e]; rfl
 have ep:(fnm C x B n i,((fw C x B n (i + 1)).1:Int))=p:=by
  rw [en,ef]
  refine Prod.ext rfl ?_
  show ((p.2.toNat:Nat):Int)=p.2
  omega
 rw [ep,e]
 exact ⟨rfl,by rw [ef,en],p1⟩
theorem step_lay {C:Combs} (g:GC C) (nd:(C.map (·.1)).Nodup) (ne:∀ c∈C,c.1≠Str.ofString "") {p n:Nat} {l:List (Nat×Str)} (hl:l∈chs C p) (ol:OkC C l p) {x:Str} (h:(x,(n:Int))∈stp C (shp C l p)) :
  (if x=Str.ofString "" then l else l ++ [(p,x)])∈chs C (p + 1)/\OkC C (if x=Str.ofString "" then l else l ++ [(p,x)]) (p + 1)/\shp C (if x=Str.ofString "" then l else l ++ [(p,x)]) (p + 1)=n:=by
 obtain ⟨_,hb⟩:=(zcm g (zfW _ _ _)).mp h
 rcases hb with ⟨h0,rfl,hb⟩ | ⟨h0,c,hc,rfl,hx,hb⟩
 ·rw [if_pos rfl]
  rw [zaV g hl,decide_eq_true_eq] at h0
  have hm:l∈chs C (p + 1):=List.mem_flatMap.mpr ⟨l,hl,List.mem_cons_self⟩
  refine ⟨hm,(zd3 hl g).mpr ⟨ol,h0⟩,zbZ fun d => ?_⟩
  rw [zaV g hm,hb,zaV g hl,show p + 1 + d=p + (d + 1) by omega]
 ·rw [if_neg (ne c hc)]
  rw [zaV g hl,decide_eq_false_iff_not] at h0
  have hz:cov C l p=0:=by have:=ol.2 p (by omega); have h0:¬ cov C l p=1:=h0; omega
  have hm:l ++ [(p,c.1)]∈chs C (p + 1):=List.mem_flatMap.mpr ⟨l,hl,List.mem_cons_of_mem _ (List.mem_map.mpr ⟨c,hc,rfl⟩)⟩
  refine ⟨hm,(zd2 hl g nd hc).mpr ⟨ol,hz,fun d hd=>hx d (by rw [zaV g hl,decide_eq_true hd])⟩,zbZ fun d => ?_⟩
  rw [zaV g hm,hb,zaV g hl,show p + 1 + d=p + (d + 1) by omega,zcz,zgv nd hc]
  have hx':=hx (d + 1)
  rw [zaV g hl,decide_eq_true_eq] at hx'
  have hle:cov C l (p + (d + 1))<=1:=by
   by_cases e':d + 1 < 8
   ·exact ol.2 _ (by omega)
   ·rw [zcg g hl (by omega)]; omega
  by_cases a:cov C l (p + (d + 1))=1
  ·rw [decide_eq_false (hx' a),a]; rfl
  ·have a0:cov C l (p + (d + 1))=0:=by omega
   by_cases z:((d + 1:Nat):Int)∈c.2
   ·rw [decide_eq_true z,a0]; rfl
   ·rw [decide_eq_false z,a0]; rfl
noncomputable def laysOf (nm:Nat->Str) (n:Nat):List (Nat×Str):=(laid nm n).map fun j=>(j,nm j)
theorem zbI (nm:Nat->Str) (i:Nat):laysOf nm (i + 1)=if nm i=Str.ofString "" then laysOf nm i else laysOf nm i ++ [(i,nm i)]:=by
 unfold laysOf laid
 rw [List.range_succ,List.filter_append]
 by_cases h:nm i=Str.ofString ""
 ·rw [if_pos h,List.filter_cons,if_neg (by simp [h]),List.filter_nil,List.append_nil]
 ·rw [if_neg h,List.filter_cons,if_pos (by simp [h]),List.filter_nil,List.map_append]
  rfl
theorem zgk {C:Combs} (g:GC C) (nd:(C.map (·.1)).Nodup) (ne:∀ c∈C,c.1≠Str.ofString "") {f:Nat->Nat} {nm:Nat->Str} {n:Nat} (h0:f 0=0) (hs:∀ i,i < n->(nm i,(f (i + 1):Int))∈stp C (f i)):∀ i,i<=n->laysOf nm i∈chs C i/\OkC C (laysOf nm i) i/\shp C (laysOf nm i) i=f i
 | 0,_=>⟨List.mem_singleton.mpr rfl,⟨fun q hq=>by omega,fun q _=>Nat.zero_le _⟩,by rw [h0]; rfl⟩
 | i + 1,hi=>by
  obtain ⟨h1,h2,h3⟩:=zgk g nd ne h0 hs i (by omega)
  have:=step_lay g nd ne h1 h2 (x:=nm i) (n:=f (i + 1)) (by rw [h3]; exact hs i (by omega))
  rw [zbI]
  exact this
theorem path_cover {C:Combs} (g:GC C) (nd:(C.map (·.1)).Nodup) (ne:∀ c∈C,c.1≠Str.ofString "") {f:Nat->Nat} {nm:Nat->Str} {n:Nat} (h0:f 0=0) (hn:f n=0) (hs:∀ i,i < n->(nm i,(f (i + 1):Int))∈stp C (f i)):laysOf nm n∈chs C n/\Cover C (laysOf nm n) n:=by
 obtain ⟨h1,h2,h3⟩:=zgk g nd ne h0 hs n (Nat.le_refl _)
 exact ⟨h1,(zfl g h1).mp ⟨h2,by rw [h3,hn]⟩⟩
noncomputable def LyR (H:Hp) (vs:List V) (l:List (Nat×Str)):Prop:=Paired (fun (x:Nat×Str) (u:V)=>∃ t,u = .ref t/\H t=some (.tup [.int (x.1:Int),.str x.2])) l vs
theorem LyR.mono {H H':Hp} {vs:List V} {l:List (Nat×Str)} (r:LyR H vs l) (mt:∀ q xs,H q=some (.tup xs)->H' q=some (.tup xs)):LyR H' vs l:=Paired.mapP r fun _ _ ⟨t,a,b⟩=>⟨t,a,mt _ _ b⟩
theorem lays_ly {H:Hp} {vs:List V} {nm:Nat->Str} {n:Nat} (r:LaysR H vs nm n):LyR H vs (laysOf nm n):=by
 have all:∀ {L:List Nat} {vs:List V},Paired (fun (j:Nat) (v:V)=>∃ q,v = .ref q/\H q=some (.tup [.int (j:Int),.str (nm j)])) L vs->LyR H vs (L.map fun j=>(j,nm j)):=by
  intro L vs r
  induction r with
  | nil=>exact .nil
  | cons h _ ih=>exact .cons h ih
 exact all r
theorem laysOf_up (nm:Nat->Str) (n:Nat):(laysOf nm n).Pairwise fun x y=>x.1 < y.1:=by
 unfold laysOf
 rw [List.pairwise_map]
 exact laid_up nm n
theorem cov_perm {C C':Combs} (p:C.Perm C') (nd:(C.map (·.1)).Nodup) (l:List (Nat×Str)) (q:Nat):cov C l q=cov C' l q:=by
 unfold cov
 refine zcM fun x _ => ?_
 unfold hit tkOf
 rw [tk_perm p nd]
theorem cover_perm {C C':Combs} (p:C.Perm C') (nd:(C.map (·.1)).Nodup) {l:List (Nat×Str)} {n:Nat} (h:Cover C l n):Cover C' l n:=fun q=>by rw [<- cov_perm p nd]; exact h q
noncomputable def okL (C:Combs) (p:Nat) (l:List (Nat×Str)):Bool:=((List.range p).all fun q=>decide (cov C l q=1)) && (List.range (p + 8)).all fun q=>decide (cov C l q<=1)
theorem okL_iff {C:Combs} {p:Nat} {l:List (Nat×Str)}:okL C p l=true ↔ OkC C l p:=by
 unfold okL OkC
 rw [Bool.and_eq_true,List.all_eq_true,List.all_eq_true]
 constructor
 ·rintro ⟨h1,h2⟩
  exact ⟨fun q hq=>of_decide_eq_true (h1 q (List.mem_range.mpr hq)),fun q hq=>of_decide_eq_true (h2 q (List.mem_range.mpr hq))⟩
 ·rintro ⟨h1,h2⟩
  exact ⟨fun q hq=>decide_eq_true (h1 q (List.mem_range.mp hq)),fun q hq=>decide_eq_true (h2 q (List.mem_range.mp hq))⟩
noncomputable def shpB (C:Combs) (k t:Nat) (l:List (Nat×Str)):Bool:=okL C k l && decide (shp C l k=t)
noncomputable def cnt (C:Combs) (k t:Nat):Nat:=((chs C k).filter (shpB C k t)).length
noncomputable def goN (C:Combs) (s t:Nat):Nat:=((stp C s).filter fun p=>decide (p.2.toNat=t)).length
theorem zdS {α : Type} (P : α -> Bool):∀ l:List α,(l.filter P).length=(l.map fun x=>ind (P x)).sum
 | []=>rfl
 | a :: l=>by
  rw [List.map_cons,List.sum_cons,<- zdS P l,List.filter_cons]
  unfold ind
  split
  ·rw [List.length_cons]; omega
  ·omega
theorem zea {α β : Type} (f : α -> List β) (P : β -> Bool):∀ l:List α,((l.flatMap f).filter P).length=(l.map fun a=>((f a).filter P).length).sum
 | []=>rfl
 | a :: l=>by rw [List.flatMap_cons,List.filter_append,List.length_append,List.map_cons,List.sum_cons,zea f P l]
theorem stp_one {C:Combs} {s:Nat} (h:s.testBit 0=false):stp C s=C.flatMap fun c=>stp [c] s:=by
 have h2:¬ ((s:Nat):Int) % 2=1:=by
  intro z
  have:s % 2=1:=by omega
  rw [Nat.testBit_zero] at h
  simp at h
  omega
 unfold stp stepsOf
 rw [if_neg h2]
 induction C with
 | nil=>rfl
 | cons c C ih =>
  rw [List.flatMap_cons,List.filter_cons,<- ih,if_neg h2,List.filter_cons,List.filter_nil]
  by_cases e:decide (Builtin.bitAnd ((s:Nat):Int) (worth c.2)=0)=true
  ·rw [if_pos e,if_pos e]; rfl
  ·rw [if_neg e,if_neg e]; rfl
theorem stp_one_len (c:Str×List Int) (s:Nat):(stp [c] s).length<=1:=by
 unfold stp stepsOf
 split
 ·exact Nat.le_refl _
 ·rw [List.length_map]
  exact List.length_filter_le _ _
open Classical in
theorem goN_one {c:Str×List Int} (g:GC [c]) {s t:Nat} (hs:s < 128):goN [c] s t=ind (decide (t < 128/\∃ x,StB [c] s x t)):=by
 unfold goN
 have h1:=stp_one_len c s
 cases e:stp [c] s with
 | nil =>
  rw [decide_eq_false]
  ·rfl
  ·rintro ⟨h2,x,h3⟩
   have:=(zcm g hs).mpr ⟨h2,h3⟩
   rw [e] at this
   cases this
 | cons p l =>
  rw [e,List.length_cons] at h1
  have:l = []:=List.eq_nil_of_length_eq_zero (by omega)
  subst this
  have hp:p∈stp [c] s:=by rw [e]; exact List.mem_singleton.mpr rfl
  have hlt:=zbT g hs hp
  rw [List.filter_cons,List.filter_nil]
  by_cases z:p.2.toNat=t
  ·rw [if_pos (decide_eq_true z),decide_eq_true]
   ·rfl
   ·obtain ⟨x,y⟩:=p
    dsimp only at z hlt
    have:y=((t:Nat):Int):=by omega
    subst this
    have:=(zcm g hs).mp hp
    exact ⟨this.1,x,this.2⟩
  ·rw [if_neg (by rw [decide_eq_true_eq]; exact z),decide_eq_false]
   ·rfl
   ·rintro ⟨h2,x,h3⟩
    have:=(zcm g hs).mpr ⟨h2,h3⟩
    rw [e] at this
    rw [<- List.mem_singleton.mp this] at z
    exact z (by simp)
open Classical in
theorem goN_odd {C:Combs} (g:GC C) {s t:Nat} (hs:s < 128) (h:s.testBit 0=true):goN C s t=ind (decide (∀ d,t.testBit d=s.testBit (d + 1))):=by
 have h2:((s:Nat):Int) % 2=1:=by
  rw [Nat.testBit_zero] at h
  simp at h
  omega
 unfold goN stp
 rw [zcn h2,List.filter_cons,List.filter_nil]
 have hm:(Str.ofString "",(((s / 2:Nat)):Int))∈stp C s:=by
  unfold stp
  rw [zcn h2]
  refine List.mem_singleton.mpr (Prod.ext rfl ?_)
  show (((s / 2:Nat)):Int)=((s:Nat):Int) / 2
  omega
 obtain ⟨k1,k2⟩:=(zcm g hs).mp hm
 have kb:∀ d,(s / 2).testBit d=s.testBit (d + 1):=by
  rcases k2 with ⟨_,_,hb⟩ | ⟨h0,_⟩
  ·exact hb
  ·rw [h] at h0; cases h0
 have e:(((s:Nat):Int) / 2).toNat=s / 2:=by omega
 dsimp only
 rw [e]
 by_cases z:s / 2=t
 ·rw [if_pos (decide_eq_true z),decide_eq_true (fun d=>by rw [<- z]; exact kb d)]
  rfl
 ·rw [if_neg (by rw [decide_eq_true_eq]; exact z),decide_eq_false (fun hb=>z (zbZ fun d=>by rw [hb,kb]))]
  rfl
open Classical in
theorem ext_cnt {C:Combs} (g:GC C) (nd:(C.map (·.1)).Nodup) (ne:∀ c∈C,c.1≠Str.ofString "") {k t:Nat} (ht:t < 128) {l:List (Nat×Str)} (hl:l∈chs C k) :
  ((l :: C.map fun c=>l ++ [(k,c.1)]).filter (shpB C (k + 1) t)).length=if okL C k l=true then goN C (shp C l k) t else 0:=by
 have hm0:l∈chs C (k + 1):=List.mem_flatMap.mpr ⟨l,hl,List.mem_cons_self⟩
 have hmc:∀ c∈C,l ++ [(k,c.1)]∈chs C (k + 1):=fun c hc=>List.mem_flatMap.mpr ⟨l,hl,List.mem_cons_of_mem _ (List.mem_map.mpr ⟨c,hc,rfl⟩)⟩
 by_cases hok:okL C k l=true
 case neg =>
  rw [if_neg hok,List.filter_eq_nil_iff.mpr]
  ·rfl
  ·intro r hr hz
   unfold shpB at hz
   rw [Bool.and_eq_true,okL_iff] at hz
   rcases List.mem_cons.mp hr with rfl | hr
   ·exact hok (okL_iff.mpr ((zd3 hl g).mp hz.1).1)
   ·obtain ⟨c,hc,rfl⟩:=List.mem_map.mp hr
    exact hok (okL_iff.mpr ((zd2 hl g nd hc).mp hz.1).1)
 rw [if_pos hok]
 have ol:=okL_iff.mp hok
 have hs:=zfW C l k
 have hb0:=zaV g hl 0
 rw [Nat.add_zero] at hb0
 have bn:∀ d,(shp C l (k + 1)).testBit d=(shp C l k).testBit (d + 1):=fun d=>by
  rw [zaV g hm0,zaV g hl,show k + 1 + d=k + (d + 1) by omega]
 by_cases hc1:cov C l k=1
 ·rw [decide_eq_true hc1] at hb0
  rw [goN_odd g hs hb0,List.filter_cons]
  have hnil:(C.map fun c=>l ++ [(k,c.1)]).filter (shpB C (k + 1) t) = []:=by
   rw [List.filter_eq_nil_iff]
   intro r hr hz
   obtain ⟨c,hc,rfl⟩:=List.mem_map.mp hr
   unfold shpB at hz
   rw [Bool.and_eq_true,okL_iff] at hz
   have:=((zd2 hl g nd hc).mp hz.1).2.1
   omega
  rw [hnil]
  have e:shpB C (k + 1) t l=decide (∀ d,t.testBit d=(shp C l k).testBit (d + 1)):=by
   unfold shpB
   rw [okL_iff.mpr ((zd3 hl g).mpr ⟨ol,hc1⟩),Bool.true_and,decide_eq_decide]
   constructor
   ·intro z d
    rw [<- z,bn]
   ·intro z
    exact zbZ fun d=>by rw [bn,z]
  rw [e]
  unfold ind
  split <;> rfl
 ·have hc0:cov C l k=0:=by have:=ol.2 k (by omega); omega
  rw [decide_eq_false hc1] at hb0
  have hnone:shpB C (k + 1) t l=false:=by
   unfold shpB
   rw [Bool.and_eq_false_iff]
   left
   cases e:okL C (k + 1) l with
   | false=>rfl
   | true=>exact absurd ((zd3 hl g).mp (okL_iff.mp e)).2 hc1
  rw [List.filter_cons,hnone,if_neg Bool.false_ne_true]
  unfold goN
  rw [stp_one hb0,zea,zdS,List.map_map]
  refine zcM fun c hc => ?_
  have gc1:GC [c]:=fun c' hc'=>by rw [List.mem_singleton.mp hc']; exact g c hc
  show ind (shpB C (k + 1) t (l ++ [(k,c.1)]))=goN [c] (shp C l k) t
  rw [goN_one gc1 hs]
  congr 1
  unfold shpB
  rw [Bool.eq_iff_iff,Bool.and_eq_true,okL_iff,decide_eq_true_eq,decide_eq_true_eq,zd2 hl g nd hc]
  have bs:∀ d,(shp C (l ++ [(k,c.1)]) (k + 1)).testBit d=decide (cov C l (k + (d + 1)) + ind (decide (((d + 1:Nat):Int)∈c.2))=1):=fun d=>by
   rw [zaV g (hmc c hc),zcz,show k + 1 + d=k + (d + 1) by omega,zgv nd hc]
  have key:(∀ d:Nat,cov C l (k + d)=1->(d:Int) ∉ c.2)->∀ d,(shp C (l ++ [(k,c.1)]) (k + 1)).testBit d=((shp C l k).testBit (d + 1) || decide (((d + 1:Nat):Int)∈c.2)):=fun hx d=>by
   rw [bs,zaV g hl]
   have hle:cov C l (k + (d + 1))<=1:=by
    by_cases e':d + 1 < 8
    ·exact ol.2 _ (by omega)
    ·rw [zcg g hl (by omega)]; omega
   by_cases a:cov C l (k + (d + 1))=1
   ·rw [decide_eq_false (hx (d + 1) a),a]; rfl
   ·have a0:cov C l (k + (d + 1))=0:=by omega
    by_cases z:((d + 1:Nat):Int)∈c.2
    ·rw [decide_eq_true z,a0]; rfl
    ·rw [decide_eq_false z,a0]; rfl
  constructor
  ·rintro ⟨⟨_,_,hx⟩,rfl⟩
   refine ⟨ht,c.1,.inr ⟨hb0,c,List.mem_singleton.mpr rfl,rfl,fun d hd=>hx d ?_,key hx⟩⟩
   rw [zaV g hl,decide_eq_true_eq] at hd
   exact hd
  ·rintro ⟨_,x,hb⟩
   rcases hb with ⟨z,_⟩ | ⟨_,c',hc',_,hx,hb⟩
   ·rw [hb0] at z; cases z
   ·rw [List.mem_singleton.mp hc'] at hx hb
    have hx':∀ d:Nat,cov C l (k + d)=1->(d:Int) ∉ c.2:=fun d hd=>hx d (by rw [zaV g hl,decide_eq_true hd])
    exact ⟨⟨ol,hc0,hx'⟩,zbZ fun d=>by rw [key hx',hb]⟩
theorem zds {α : Type} {l:List α} {f : α -> Nat} {sh : α -> Nat} (h:∀ x∈l,sh x < 128) (G:Nat->Nat):(l.map fun x=>f x * G (sh x)).sum=sumR 128 fun s=>(l.map fun x=>if sh x=s then f x else 0).sum * G s:=by
 induction l with
 | nil=>exact (zdU fun s _=>by simp).symm
 | cons a l ih =>
  rw [List.map_cons,List.sum_cons,ih fun x hx=>h x (List.mem_cons_of_mem _ hx)]
  have ha:=h a List.mem_cons_self
  have e1:f a * G (sh a)=sumR 128 fun s=>(if sh a=s then f a else 0) * G s:=by
   have:=zdT (n:=128) (j0:=sh a) (p:=fun s=>decide (sh a=s)) (g:=fun s=>f a * G s) ha (fun j _=>by rw [decide_eq_true_eq]; exact ⟨fun z=>z.symm,fun z=>z.symm⟩)
   rw [<- this]
   refine zaL fun s _ => ?_
   by_cases z:sh a=s
   ·rw [if_pos (decide_eq_true z),if_pos z]
   ·rw [if_neg (by rw [decide_eq_true_eq]; exact z),if_neg z,Nat.zero_mul]
  rw [e1,<- zfk]
  refine zaL fun s _ => ?_
  rw [List.map_cons,List.sum_cons,Nat.add_mul]
theorem cnt_succ {C:Combs} (g:GC C) (nd:(C.map (·.1)).Nodup) (ne:∀ c∈C,c.1≠Str.ofString "") {k t:Nat} (ht:t < 128):cnt C (k + 1) t=sumR 128 fun s=>cnt C k s * goN C s t:=by
 show (((chs C k).flatMap fun r=>r :: C.map fun c=>r ++ [(k,c.1)]).filter (shpB C (k + 1) t)).length=_
 rw [zea]
 have e1:((chs C k).map fun l=>((l :: C.map fun c=>l ++ [(k,c.1)]).filter (shpB C (k + 1) t)).length).sum=((chs C k).map fun l=>ind (okL C k l) * goN C (shp C l k) t).sum:=by
  refine zcM fun l hl => ?_
  rw [ext_cnt g nd ne ht hl]
  unfold ind
  split
  ·rw [Nat.one_mul]
  ·rw [Nat.zero_mul]
 rw [e1,zds (fun l _=>zfW C l k) (fun s=>goN C s t)]
 refine zaL fun s _ => ?_
 congr 1
 unfold cnt
 rw [zdS]
 refine zcM fun l _ => ?_
 unfold shpB ind
 by_cases z:shp C l k=s
 ·rw [if_pos z,decide_eq_true z,Bool.and_true]
 ·rw [if_neg z,decide_eq_false z,Bool.and_false]; rfl
theorem cnt_zero (C:Combs) (t:Nat):cnt C 0 t=if t=0 then 1 else 0:=by
 unfold cnt
 have e:shpB C 0 t []=decide (0=t):=by
  unfold shpB
  rw [okL_iff.mpr ⟨fun q hq=>by omega,fun q _=>Nat.zero_le _⟩,Bool.true_and]
  rfl
 show (([[]]:List (List (Nat×Str))).filter (shpB C 0 t)).length=_
 rw [List.filter_cons,List.filter_nil,e]
 by_cases z:t=0
 ·rw [if_pos z,if_pos (decide_eq_true z.symm)]; rfl
 ·rw [if_neg z,if_neg (by rw [decide_eq_true_eq]; exact fun y=>z y.symm)]; rfl
theorem Wy_sum {C:Combs} (g:GC C) {k s:Nat} (hs:s < 128):Wy C (k + 1) s=sumR 128 fun t=>goN C s t * Wy C k t:=by
 show ((stp C s).map fun p=>Wy C k p.2.toNat).sum=_
 have:=zds (l:=stp C s) (f:=fun _=>1) (sh:=fun p=>p.2.toNat) (fun p hp=>(zbT g hs hp).2) (Wy C k)
 rw [show ((stp C s).map fun p=>Wy C k p.2.toNat).sum=((stp C s).map fun p=>1 * Wy C k p.2.toNat).sum from zcM fun p _=>(Nat.one_mul _).symm,this]
 refine zaL fun t _ => ?_
 congr 1
 unfold goN
 rw [zdS]
 refine zcM fun p _ => ?_
 unfold ind
 by_cases z:p.2.toNat=t
 ·rw [if_pos z,if_pos (decide_eq_true z)]
 ·rw [if_neg z,if_neg (by rw [decide_eq_true_eq]; exact z)]
theorem zhi {C:Combs} (g:GC C) (nd:(C.map (·.1)).Nodup) (ne:∀ c∈C,c.1≠Str.ofString ""):∀ m k,(sumR 128 fun s=>cnt C k s * Wy C m s)=cnt C (k + m) 0
 | 0,k=>by
  have:=zdT (n:=128) (j0:=0) (p:=fun s=>decide (s=0)) (g:=fun s=>cnt C k s) (by decide) (fun j _=>by rw [decide_eq_true_eq])
  rw [Nat.add_zero,<- this]
  refine zaL fun s _ => ?_
  show cnt C k s * (if s=0 then 1 else 0)=_
  by_cases z:s=0
  ·rw [if_pos z,if_pos (decide_eq_true z),Nat.mul_one]
  ·rw [if_neg z,if_neg (by rw [decide_eq_true_eq]; exact z),Nat.mul_zero]
 | m + 1,k=>by
  rw [show k + (m + 1)=k + 1 + m by omega,<- zhi g nd ne m (k + 1)]
  have e1:(sumR 128 fun s=>cnt C k s * Wy C (m + 1) s)=sumR 128 fun s=>sumR 128 fun t=>cnt C k s * goN C s t * Wy C m t:=by
   refine zaL fun s hs => ?_
   rw [Wy_sum g hs,zfj]
   refine zaL fun t _ => ?_
   rw [Nat.mul_assoc]
  rw [e1,sumR_swap]
  refine zaL fun t ht => ?_
  rw [cnt_succ g nd ne ht,Nat.mul_comm,zfj]
  refine zaL fun s _ => ?_
  rw [Nat.mul_comm]
theorem Wy_cnt {C:Combs} (g:GC C) (nd:(C.map (·.1)).Nodup) (ne:∀ c∈C,c.1≠Str.ofString "") (n:Nat):Wy C n 0=cnt C n 0:=by
 have h:=zhi g nd ne n 0
 rw [Nat.zero_add] at h
 rw [<- h]
 have:=zdT (n:=128) (j0:=0) (p:=fun s=>decide (s=0)) (g:=fun s=>Wy C n s) (by decide) (fun j _=>by rw [decide_eq_true_eq])
 rw [<- this]
 refine zaL fun s _ => ?_
 rw [cnt_zero]
 by_cases z:s=0
 ·rw [if_pos z,if_pos (decide_eq_true z),Nat.one_mul]
 ·rw [if_neg z,if_neg (by rw [decide_eq_true_eq]; exact z),Nat.zero_mul]
theorem zeO {C:Combs} (g:GC C) {n:Nat} {l:List (Nat×Str)} (hl:l∈chs C n):shpB C n 0 l=true ↔ Cover C l n:=by
 unfold shpB
 rw [Bool.and_eq_true,okL_iff,decide_eq_true_eq]
 exact zfl g hl
theorem stp_perm {C C':Combs} (p:C.Perm C') (s:Nat):(stp C s).Perm (stp C' s):=steps_perm p _
theorem zgO {C C':Combs} (p:C.Perm C'):∀ k s,Wy C k s=Wy C' k s
 | 0,s=>rfl
 | k + 1,s=>by
  show ((stp C s).map fun q=>Wy C k q.2.toNat).sum=((stp C' s).map fun q=>Wy C' k q.2.toNat).sum
  rw [show (fun q:Str×Int=>Wy C k q.2.toNat)=fun q=>Wy C' k q.2.toNat from funext fun q=>zgO p k _]
  exact (List.Perm.map _ (stp_perm p s)).sum_nat
noncomputable abbrev KB:=List Key×Bool
section
variable {P:Program} {w:World} {A:Around} {E:Value->Shared->Prop} {s:Shared}
end
noncomputable abbrev PX:=KB×Addr×V
section
variable {P:Program} {w:World} {H:Hp} {h:Heap} {a b:Addr} {xs:List PX} {k:KB}
end
section
variable {X:Cx} {pins:List (Addr×Obj)} {σ : St} {H:Hp} {s:Shared} {a b:Addr} {xs:List PX} {k:KB} {A:Around} {E:Value->Shared->Prop}
end
section
variable {X:Cx} {o i e f value k v:Expr} {pos pos' apos cpos:Pos} {td ty tv tx tk:TE}
end
section
variable {X:Cx} {pins:List (Addr×Obj)} {σ : St} {H:Hp} {s:Shared} {a:Addr} {u:HO}
end
section
variable {X:Cx} {tg:Expr}
end
section
variable {C:Combs} {x:Str}
end
section
variable {mvs:List PX} {rs:List (Nat×Bool)} {G:Nat×Bool->Nat}
end
section
variable {X:Cx}
end
end L2
set_option maxHeartbeats 4000000
namespace L2
open PySem PySem.Spec PyProof.Rows PySem.W
open AutoSeq1 (wpAny_loadPart')
open MeetsSeq MeetsSeq2 MeetsSeq3
noncomputable def ltS:List Str->List Str->Bool
 | [],[]=>false
 | [],_ :: _=>true
 | _ :: _,[]=>false
 | x :: xs,y :: ys=>if (x.cps.toList == y.cps.toList)=true then ltS xs ys else decide (x.cps.toList < y.cps.toList)
noncomputable def cmS (op:CmpOp) (a b:List Str):Bool:=match op with
 | .Lt=>ltS a b
 | .LtE => !ltS b a
 | _=>ltS b a
noncomputable def SA (its:Array Value) (as:List Str):Prop:=its.size=as.length/\∀ (j:Nat) x,as[j]?=some x->∃ t,its[j]?=some (.str x t)
theorem zhj (op:CmpOp) (h:op = .Lt\/op = .LtE\/op = .Gt) {as bs:List Str} {i:Nat} (h1:i<=as.length) (h2:i<=bs.length) (h3:i=as.length\/i=bs.length) :
  (match op with | .Eq=>as.length == bs.length | .NotEq=>as.length != bs.length | .Lt=>decide (as.length < bs.length) | .LtE=>decide (as.length<=bs.length) | .Gt=>decide (as.length > bs.length) | _=>decide (as.length>=bs.length))=cmS op (as.drop i) (bs.drop i):=by
 have lt:∀ {as bs:List Str},i<=as.length->i<=bs.length->(i=as.length\/i=bs.length)->ltS (as.drop i) (bs.drop i)=decide (as.length < bs.length):=by
  intro as bs h1 h2 h3
  by_cases e1:i=as.length
  ·rw [List.drop_of_length_le (show as.length<=i by omega)]
   by_cases e2:i=bs.length
   ·rw [List.drop_of_length_le (show bs.length<=i by omega),decide_eq_false (show ¬ as.length < bs.length by omega)]; rfl
   ·cases h:bs.drop i with
    | nil=>have:=congrArg List.length h; rw [List.length_drop] at this; simp at this; omega
    | cons y ys=>rw [decide_eq_true (show as.length < bs.length by omega)]; rfl
  ·have e2:i=bs.length:=by omega
   rw [List.drop_of_length_le (show bs.length<=i by omega),decide_eq_false (show ¬ as.length < bs.length by omega)]
   cases h:as.drop i with
   | nil=>rfl
   | cons y ys=>rfl
 rcases h with rfl | rfl | rfl
 ·exact (lt h1 h2 h3).symm
 ·show decide (as.length<=bs.length) = !ltS (bs.drop i) (as.drop i)
  rw [lt h2 h1 h3.symm]
  by_cases z:bs.length < as.length
  ·rw [decide_eq_true z,decide_eq_false (by omega)]; rfl
  ·rw [decide_eq_false z,decide_eq_true (by omega)]; rfl
 ·exact (lt h2 h1 h3.symm).symm
theorem cm_step (op:CmpOp) {x y:Str} {xs ys:List Str} (h:(x.cps.toList == y.cps.toList)=true):cmS op (x :: xs) (y :: ys)=cmS op xs ys:=by
 have h':(y.cps.toList == x.cps.toList)=true:=by rw [beq_iff_eq] at h ⊢; exact h.symm
 have e1:ltS (x :: xs) (y :: ys)=ltS xs ys:=by unfold ltS; rw [if_pos h]; cases xs <;> cases ys <;> rfl
 have e2:ltS (y :: ys) (x :: xs)=ltS ys xs:=by unfold ltS; rw [if_pos h']; cases xs <;> cases ys <;> rfl
 unfold cmS
 cases op <;> simp only [e1,e2]
theorem cm_diff (op:CmpOp) {x y:Str} {xs ys:List Str} (h:(x.cps.toList == y.cps.toList)=false):cmS op (x :: xs) (y :: ys)=match op with | .Lt=>decide (x.cps.toList < y.cps.toList) | .LtE => !decide (y.cps.toList < x.cps.toList) | _=>decide (y.cps.toList < x.cps.toList):=by
 have h':(y.cps.toList == x.cps.toList)=false:=by rw [beq_eq_false_iff_ne] at h ⊢; exact fun z=>h z.symm
 have e1:ltS (x :: xs) (y :: ys)=decide (x.cps.toList < y.cps.toList):=by unfold ltS; rw [if_neg (by rw [h]; exact Bool.false_ne_true)]
 have e2:ltS (y :: ys) (x :: xs)=decide (y.cps.toList < x.cps.toList):=by unfold ltS; rw [if_neg (by rw [h']; exact Bool.false_ne_true)]
 unfold cmS
 cases op <;> simp only [e1,e2]
theorem str_cmp {prog:Program} {w:World} {A:Around} {E:Value->Shared->Prop} {s:Shared} (op:CmpOp) (h:op = .Lt\/op = .LtE\/op = .Gt) {x y:Str} {t u:Tok} {Q:Value->Shared->Prop}
  (q:Q (.bool (match op with | .Lt=>decide (x.cps.toList < y.cps.toList) | .LtE => !decide (y.cps.toList < x.cps.toList) | _=>decide (y.cps.toList < x.cps.toList))) s):wpAny (model prog w) A (richCompare op (.str x t) (.str y u)) Q E s:=by
 rcases h with rfl | rfl | rfl
 ·show wpAny _ _ (compareOp .Lt _ _) _ _ _
  exact PySem.P.lt_str q
 ·show wpAny _ _ (compareOp .LtE _ _) _ _ _
  exact PySem.P.le_str q
 ·show wpAny _ _ (compareOp .Gt _ _) _ _ _
  exact PySem.P.gt_str q
theorem zef (op:CmpOp) (code:Int) (hop:(op = .Lt/\code=0)\/(op = .LtE/\code=1)\/(op = .Gt/\code=4)) (l b:Addr) (its its2:Array Value) (n n2:Nat) (dd dd2:Option Addr) (sl sl2:Array (Option Value)) {as bs:List Str} (ha:SA its as) (hb':SA its2 bs) (k:Nat) :
  ∀ i:Nat,as.length - i=k->i<=as.length->i<=bs.length->Meets (Builtin.«list.__eq__.loop» ⟨[.ref l,.ref b,rawInt i,rawInt code],[]⟩)
   (fun _ R s=>s.heap.get? l=some { cls := .type "list",dict:=dd,data := .seq its n,slots:=sl }/\s.heap.get? b=some { cls := .type "list",dict:=dd2,data := .seq its2 n2,slots:=sl2 } /\
    R (.ok (.ret (.bool (cmS op (as.drop i) (bs.drop i))))) s):=by
 induction k with
 | zero =>
  intro i hk h1 h2 prog w A R s h
  obtain ⟨hp,g,d,tk,os⟩:=s; obtain ⟨hl,hb,h⟩:=h
  have hi1:its[((i:Nat):Int).toNat]?=none:=by simp; rw [ha.1]; omega
  have he:=zhj op (by rcases hop with h | h | h <;> simp [h.1]) (as:=as) (bs:=bs) (i:=i) h1 h2 (by omega)
  rw [<- he] at h
  rcases hop with ⟨rfl,rfl⟩ | ⟨rfl,rfl⟩ | ⟨rfl,rfl⟩
  all_goals
   wp_walk using wpAny_loadPart' hl,wpAny_loadPart' hb
   rw [hi1]
   wp_walk using wpAny_loadPart' hl,wpAny_loadPart' hb
   rw [<- ha.1,<- hb'.1] at h
   exact h
 | succ k ih =>
  intro i hk h1 h2 prog w A R s h
  obtain ⟨hp,g,d,tk,os⟩:=s; obtain ⟨hl,hb,h⟩:=h
  have hlt:i < as.length:=by omega
  by_cases hlt2:i < bs.length
  ·obtain ⟨t,e1⟩:=ha.2 i _ (List.getElem?_eq_getElem hlt)
   obtain ⟨u,e2⟩:=hb'.2 i _ (List.getElem?_eq_getElem hlt2)
   have hi1:its[((i:Nat):Int).toNat]?=some (.str as[i] t):=e1
   have hi2:its2[((i:Nat):Int).toNat]?=some (.str bs[i] u):=e2
   have hc:((i:Int) + 1)=((i + 1:Nat):Int):=by push_cast; rfl
   rw [List.drop_eq_getElem_cons hlt,List.drop_eq_getElem_cons hlt2] at h
   rcases hop with ⟨rfl,rfl⟩ | ⟨rfl,rfl⟩ | ⟨rfl,rfl⟩
   all_goals
    wp_walk using wpAny_loadPart' hl,wpAny_loadPart' hb
    rw [hi1,hi2]
    refine wpAny_bind (SeqRoads2.EqGives.str _ _ t u prog w _ _ _ _ ?_)
    cases hq:(as[i].cps.toList == bs[i].cps.toList) with
    | true =>
     rw [cm_step _ hq] at h
     wp_walk
     rw [hc]
     exact ⟨plainId_quiet plain_eq_loop _,codeAny_builtin entry_eq_loop (by
      rw [Around.under_plainId plain_eq_loop _]
      exact ih (i + 1) (by omega) (by omega) (by omega) prog w A R _ ⟨hl,hb,h⟩)⟩
    | false =>
     rw [cm_diff _ hq] at h
     wp_walk using wpAny_loadPart' hl,wpAny_loadPart' hb
     rw [hi1,hi2]
     refine wpAny_bind ?_
     refine str_cmp _ ?_ ?_
     ·first
       | exact .inl rfl
       | exact .inr (.inl rfl)
       | exact .inr (.inr rfl)
     wp_walk
     exact h
  ·have e2:i=bs.length:=by omega
   obtain ⟨t,e1⟩:=ha.2 i _ (List.getElem?_eq_getElem hlt)
   have hi1:its[((i:Nat):Int).toNat]?=some (.str as[i] t):=e1
   have hi2:its2[((i:Nat):Int).toNat]?=none:=by simp; rw [hb'.1]; omega
   have he:=zhj op (by rcases hop with h | h | h <;> simp [h.1]) (as:=as) (bs:=bs) (i:=i) h1 h2 (by omega)
   rw [<- he] at h
   rcases hop with ⟨rfl,rfl⟩ | ⟨rfl,rfl⟩ | ⟨rfl,rfl⟩
   all_goals
    wp_walk using wpAny_loadPart' hl,wpAny_loadPart' hb
    rw [hi1,hi2]
    wp_walk using wpAny_loadPart' hl,wpAny_loadPart' hb
    rw [<- ha.1,<- hb'.1] at h
    exact h
end L2
set_option maxHeartbeats 4000000
namespace L2
open PySem PySem.Spec PyProof.Rows PySem.W
open AutoSeq1 (wpAny_loadPart')
open MeetsSeq MeetsSeq2 MeetsSeq3
theorem list_ltS (l b:Addr) (its its2:Array Value) (n n2:Nat) (dd dd2:Option Addr) (sl sl2:Array (Option Value)) {as bs:List Str} (ha:SA its as) (hb':SA its2 bs) :
  Meets (Builtin.«list.__lt__» ⟨[.ref l,.ref b],[]⟩)
   (fun _ R s=>s.heap.get? l=some { cls := .type "list",dict:=dd,data := .seq its n,slots:=sl }/\s.heap.get? b=some { cls := .type "list",dict:=dd2,data := .seq its2 n2,slots:=sl2 } /\
    R (.ok (.ret (.bool (cmS .Lt as bs)))) s):=by
 intro prog w A R s h
 obtain ⟨hp,g,d,tk,os⟩:=s; obtain ⟨hl,hb,h⟩:=h
 have f3:=AutoSeq1.sub_list_list
 wp_walk using wpAny_loadPart' hl,wpAny_loadPart' hb
 exact ⟨plainId_quiet plain_eq_loop _,codeAny_builtin entry_eq_loop (by
  rw [Around.under_plainId plain_eq_loop _]
  exact zef .Lt 0 (.inl ⟨rfl,rfl⟩) l b its its2 n n2 dd dd2 sl sl2 ha hb' _ 0 rfl (Nat.zero_le _) (Nat.zero_le _) prog w A R _ ⟨hl,hb,h⟩)⟩
theorem list_leS (l b:Addr) (its its2:Array Value) (n n2:Nat) (dd dd2:Option Addr) (sl sl2:Array (Option Value)) {as bs:List Str} (ha:SA its as) (hb':SA its2 bs) :
  Meets (Builtin.«list.__le__» ⟨[.ref l,.ref b],[]⟩)
   (fun _ R s=>s.heap.get? l=some { cls := .type "list",dict:=dd,data := .seq its n,slots:=sl }/\s.heap.get? b=some { cls := .type "list",dict:=dd2,data := .seq its2 n2,slots:=sl2 } /\
    R (.ok (.ret (.bool (cmS .LtE as bs)))) s):=by
 intro prog w A R s h
 obtain ⟨hp,g,d,tk,os⟩:=s; obtain ⟨hl,hb,h⟩:=h
 have f3:=AutoSeq1.sub_list_list
 wp_walk using wpAny_loadPart' hl,wpAny_loadPart' hb
 exact ⟨plainId_quiet plain_eq_loop _,codeAny_builtin entry_eq_loop (by
  rw [Around.under_plainId plain_eq_loop _]
  exact zef .LtE 1 (.inr (.inl ⟨rfl,rfl⟩)) l b its its2 n n2 dd dd2 sl sl2 ha hb' _ 0 rfl (Nat.zero_le _) (Nat.zero_le _) prog w A R _ ⟨hl,hb,h⟩)⟩
theorem list_gtS (l b:Addr) (its its2:Array Value) (n n2:Nat) (dd dd2:Option Addr) (sl sl2:Array (Option Value)) {as bs:List Str} (ha:SA its as) (hb':SA its2 bs) :
  Meets (Builtin.«list.__gt__» ⟨[.ref l,.ref b],[]⟩)
   (fun _ R s=>s.heap.get? l=some { cls := .type "list",dict:=dd,data := .seq its n,slots:=sl }/\s.heap.get? b=some { cls := .type "list",dict:=dd2,data := .seq its2 n2,slots:=sl2 } /\
    R (.ok (.ret (.bool (cmS .Gt as bs)))) s):=by
 intro prog w A R s h
 obtain ⟨hp,g,d,tk,os⟩:=s; obtain ⟨hl,hb,h⟩:=h
 have f3:=AutoSeq1.sub_list_list
 wp_walk using wpAny_loadPart' hl,wpAny_loadPart' hb
 exact ⟨plainId_quiet plain_eq_loop _,codeAny_builtin entry_eq_loop (by
  rw [Around.under_plainId plain_eq_loop _]
  exact zef .Gt 4 (.inr (.inr ⟨rfl,rfl⟩)) l b its its2 n n2 dd dd2 sl sl2 ha hb' _ 0 rfl (Nat.zero_le _) (Nat.zero_le _) prog w A R _ ⟨hl,hb,h⟩)⟩
theorem zhw {as:List Str} {us:List Value} (r:Vals (as.map V.str) us):SA us.toArray as:=by
 refine ⟨by rw [List.size_toArray,<- r.length,List.length_map],fun j x hx => ?_⟩
 obtain ⟨u,h1,t,h2⟩:=r.get (i:=j) (x := .str x) (by rw [List.getElem?_map,hx]; rfl)
 exact ⟨t,by rw [List.getElem?_toArray,h1,h2]⟩
section
variable {prog:Program} {w:World} {A:Around} {E:Value->Shared->Prop} {s:Shared}
theorem cmp_lists (op:CmpOp) (hop:op = .Lt\/op = .LtE\/op = .Gt) {l b:Addr} {items items2:Array Value} {as bs:List Str} {Q:Value->Shared->Prop} (hl:s.heap.IsList l items) (hb:s.heap.IsList b items2) (hi:SA items as) (hj:SA items2 bs)
  (hu:A.units < cLine) (h:Q (.bool (cmS op as bs)) s):wpAny (model prog w) A (compareOp op (.ref l) (.ref b)) Q E s:=by
 obtain ⟨⟨cls,dd,data,sl⟩,ho,hc,n,hd⟩:=id hl
 obtain ⟨⟨cls2,dd2,data2,sl2⟩,ho2,hc2,n2,hd2⟩:=id hb
 simp only at hc hd hc2 hd2
 subst hc hd hc2 hd2
 have z:∀ v:Bool,Value.bool v≠Value.notImplemented:=fun v x=>nomatch x
 rcases hop with rfl | rfl | rfl
 ·exact richCompare_meets_room (op := .Lt) ⟨_,ho,rfl⟩ ⟨_,ho2,rfl⟩ PySem.F.slot_list_lt PySem.F.entry_list_lt (PySem.F.args_list_lt_2 _ _) (list_ltS l b items items2 n n2 dd dd2 sl sl2 hi hj) ⟨ho,ho2,show Value.bool (cmS .Lt as bs)≠Value.notImplemented/\Q (.bool (cmS .Lt as bs)) s from ⟨z _,h⟩⟩ hu
 ·exact richCompare_meets_room (op := .LtE) ⟨_,ho,rfl⟩ ⟨_,ho2,rfl⟩ PySem.F.slot_list_le PySem.F.entry_list_le (PySem.F.args_list_le_2 _ _) (list_leS l b items items2 n n2 dd dd2 sl sl2 hi hj) ⟨ho,ho2,show Value.bool (cmS .LtE as bs)≠Value.notImplemented/\Q (.bool (cmS .LtE as bs)) s from ⟨z _,h⟩⟩ hu
 ·exact richCompare_meets_room (op := .Gt) ⟨_,ho,rfl⟩ ⟨_,ho2,rfl⟩ PySem.F.slot_list_gt PySem.F.entry_list_gt (PySem.F.args_list_gt_2 _ _) (list_gtS l b items items2 n n2 dd dd2 sl sl2 hi hj) ⟨ho,ho2,show Value.bool (cmS .Gt as bs)≠Value.notImplemented/\Q (.bool (cmS .Gt as bs)) s from ⟨z _,h⟩⟩ hu
end
noncomputable def rCmS (K:W.Frag) (op:CmpOp):R2:=fun x y H Q=>∃ a b as bs,x = .ref a/\y = .ref b/\SqL K H a (as.map V.str)/\SqL K H b (bs.map V.str)/\Q (.bl (cmS op as bs)) H
section
variable {X:Cx}
theorem op_cmS (op:CmpOp) (hop:op = .Lt\/op = .LtE\/op = .Gt) (hu:X.A.units + 64 < cLine):OpR X (compareOp op) (rCmS X.K op):=by
 intro pins s σ H x y v u Q I rx ry h
 obtain ⟨a,b,as,bs,rfl,rfl,ha,hb,q⟩:=h
 cases rx
 cases ry
 obtain ⟨its,r1,p1,_⟩:=I.list ha
 obtain ⟨its2,r2,p2,_⟩:=I.list hb
 exact cmp_lists op hop p1.isList p2.isList (zhw r1) (zhw r2) (Nat.lt_of_le_of_lt (Nat.le_add_right _ 64) hu) ⟨.bl (cmS op as bs),H,I,rfl,q⟩
end
end L2
namespace L2
open PySem PySem.Spec PyProof.Rows
theorem str_cps {x y:Str} (h:x.cps.toList=y.cps.toList):x=y:=by
 cases x; cases y
 simp only at h
 congr 1
 exact Array.toList_inj.mp h
theorem zgq:∀ l:List Str,ltS l l=false
 | []=>rfl
 | x :: l=>by
  unfold ltS
  rw [if_pos (by simp)]
  exact zgq l
theorem zgr {x y:Str} (h:x.cps.toList < y.cps.toList) (r r':List Str):∀ p:List Str,ltS (p ++ x :: r) (p ++ y :: r')=true/\ltS (p ++ y :: r') (p ++ x :: r)=false
 | []=>by
  have hne:(x.cps.toList == y.cps.toList)=false:=by
   rw [beq_eq_false_iff_ne]
   intro z
   rw [z] at h
   exact List.lt_irrefl _ h
  have hne':(y.cps.toList == x.cps.toList)=false:=by rw [beq_eq_false_iff_ne] at hne ⊢; exact fun z=>hne z.symm
  refine ⟨?_,?_⟩
  ·show (if (x.cps.toList == y.cps.toList)=true then ltS r r' else decide (x.cps.toList < y.cps.toList))=true
   rw [if_neg (by rw [hne]; exact Bool.false_ne_true),decide_eq_true h]
  ·show (if (y.cps.toList == x.cps.toList)=true then ltS r' r else decide (y.cps.toList < x.cps.toList))=false
   rw [if_neg (by rw [hne']; exact Bool.false_ne_true),decide_eq_false (List.lt_asymm h)]
 | a :: p=>by
  obtain ⟨h1,h2⟩:=zgr h r r' p
  refine ⟨?_,?_⟩
  ·show (if (a.cps.toList == a.cps.toList)=true then ltS (p ++ x :: r) (p ++ y :: r') else _)=true
   rw [if_pos (by simp)]; exact h1
  ·show (if (a.cps.toList == a.cps.toList)=true then ltS (p ++ y :: r') (p ++ x :: r) else _)=false
   rw [if_pos (by simp)]; exact h2
noncomputable def Ord (C:Combs):Prop:=C.Pairwise fun c d=>c.1.cps.toList < d.1.cps.toList
theorem by_names (cs:Combs) (l:List Str):(byNames cs l).map (·.1)=l:=by
 unfold byNames
 rw [List.map_map]
 conv=>rhs; rw [<- List.map_id l]
 rfl
theorem zeW {cs:Combs} (nd:(cs.map (·.1)).Nodup):Ord (srt cs):=by
 have h1:=zcG (zey cs)
 have h2:(nmSort cs).Nodup:=(ze1 cs).nodup_iff.mpr nd
 have h3:(nmSort cs).Pairwise fun a b=>a.cps.toList < b.cps.toList:=by
  refine (h1.and h2).imp fun {a b} h => ?_
  have h4:a.cps.toList<=b.cps.toList:=h.1
  by_cases z:a.cps.toList < b.cps.toList
  ·exact z
  ·exact absurd (str_cps (List.le_antisymm h4 (List.not_lt.mp z))) h.2
 unfold Ord
 have e:(srt cs).map (·.1)=nmSort cs:=by_names cs _
 rw [<- e,List.pairwise_map] at h3
 exact h3
theorem stp_ord {C:Combs} (o:Ord C) (s:Nat):(stp C s).Pairwise fun p q=>p.1.cps.toList < q.1.cps.toList:=by
 unfold stp stepsOf
 split
 ·exact List.pairwise_singleton _ _
 ·rw [List.pairwise_map]
  exact List.Pairwise.sublist List.filter_sublist o
theorem zgV {C:Combs} {s:Nat} {p q:Str×Int} (ne:∀ c∈C,c.1≠Str.ofString "") (hp:p∈stp C s) (hq:q∈stp C s) (h:p≠q):p.1≠Str.ofString "" := by
 unfold stp stepsOf at hp hq
 split at hp
 ·rw [if_pos ‹_›] at hq
  exact absurd ((List.mem_singleton.mp hp).trans (List.mem_singleton.mp hq).symm) h
 ·obtain ⟨c,hc,rfl⟩:=List.mem_map.mp hp
  exact ne c (List.mem_filter.mp hc).1
theorem stp_without {C:Combs} {x:Str} (hx:x≠Str.ofString "") (s:Nat):stp (C.filter fun c=>decide (c.1≠x)) s=(stp C s).filter fun p=>decide (p.1≠x):=by
 unfold stp stepsOf
 split
 ·rw [List.filter_cons,if_pos (decide_eq_true (show (Str.ofString "",_).1≠x from fun z=>hx z.symm)),List.filter_nil]
 ·rw [List.filter_map,List.filter_filter,List.filter_filter]
  congr 1
  refine List.filter_congr fun c _ => ?_
  rw [Bool.and_comm]
  rfl
theorem zdP {C:Combs} {x:Str} (hx:x≠Str.ofString ""):∀ k s,Wy C k s=Ww C x k s + Wy (C.filter fun c=>decide (c.1≠x)) k s
 | 0,s=>by show _=0 + _; rw [Nat.zero_add]; rfl
 | k + 1,s=>by
  show ((stp C s).map fun p=>Wy C k p.2.toNat).sum=((stp C s).map (bh x (Wy C k) (Ww C x k))).sum + ((stp (C.filter fun c=>decide (c.1≠x)) s).map fun p=>Wy (C.filter fun c=>decide (c.1≠x)) k p.2.toNat).sum
  rw [stp_without hx]
  induction stp C s with
  | nil=>rfl
  | cons p l ih =>
   rw [List.map_cons,List.sum_cons,List.map_cons,List.sum_cons,List.filter_cons]
   by_cases e:p.1=x
   ·rw [if_neg (by rw [decide_eq_true_eq]; exact fun z=>z e)]
    have:bh x (Wy C k) (Ww C x k) p=Wy C k p.2.toNat:=if_pos e
    omega
   ·rw [if_pos (decide_eq_true e),List.map_cons,List.sum_cons]
    have:bh x (Wy C k) (Ww C x k) p=Ww C x k p.2.toNat:=if_neg e
    have:=zdP (C:=C) hx k p.2.toNat
    omega
theorem range_getD {α β : Type} (l:List α) (d : α) (f : α -> β):(List.range l.length).map (fun i=>f (l.getD i d))=l.map f:=by
 refine List.ext_getElem (by simp) fun i h1 h2 => ?_
 rw [List.length_map,List.length_range] at h1
 simp [h1]
noncomputable def join {α : Type} (m:Nat) (f g:Nat -> α):Nat -> α := fun i=>if i < m then f i else g (i - m)
noncomputable def ext (i:Nat) (l:List (Nat×Str)) (x:Str):List (Nat×Str):=if x=Str.ofString "" then l else l ++ [(i,x)]
noncomputable def WR (C:Combs) (n:Nat):Nat->List (Nat×List (Nat×Str))
 | 0 => [(0,[])]
 | i + 1=>(WR C n i).flatMap fun a=>((stp C a.1).filter fun p=>decide (0 < Wy C (n - 1 - i) p.2.toNat)).map fun p=>(p.2.toNat,ext i a.2 p.1)
theorem laysOf_congr {nm nm':Nat->Str} {n:Nat} (h:∀ j,j < n->nm j=nm' j):laysOf nm n=laysOf nm' n:=by
 unfold laysOf laid
 have e:(List.range n).filter (fun j=>decide (nm j≠Str.ofString ""))=(List.range n).filter fun j=>decide (nm' j≠Str.ofString ""):=List.filter_congr fun j hj=>by rw [h j (List.mem_range.mp hj)]
 rw [e]
 exact List.map_congr_left fun j hj=>by rw [h j (List.mem_range.mp (List.mem_filter.mp hj).1)]
theorem zgQ {C:Combs} (g:GC C) {n:Nat}:∀ {i:Nat} {a:Nat×List (Nat×Str)},a∈WR C n i->a.1 < 128/\∃ (f:Nat->Nat) (nm:Nat->Str),f 0=0/\f i=a.1/\(∀ j,j < i->(nm j,(f (j + 1):Int))∈stp C (f j))/\a.2=laysOf nm i
 | 0,a,h=>by
  rw [List.mem_singleton.mp h]
  exact ⟨by decide,fun _=>0,fun _=>Str.ofString "",rfl,rfl,fun j hj=>by omega,rfl⟩
 | i + 1,a,h=>by
  obtain ⟨b,hb,h⟩:=List.mem_flatMap.mp h
  obtain ⟨p,hp,rfl⟩:=List.mem_map.mp h
  obtain ⟨hp,_⟩:=List.mem_filter.mp hp
  obtain ⟨b1,f,nm,f0,fi,hs,hl⟩:=zgQ g hb
  have hp0:=zbT g b1 hp
  refine ⟨by show p.2.toNat < 128; omega,fun j=>if j<=i then f j else p.2.toNat,fun j=>if j < i then nm j else p.1,f0,by show (if i + 1<=i then f (i + 1) else _)=_; rw [if_neg (by omega)],fun j hj => ?_,?_⟩
  ·show ((if j < i then nm j else p.1),(((if j + 1<=i then f (j + 1) else p.2.toNat):Nat):Int))∈stp C (if j<=i then f j else p.2.toNat)
   by_cases e:j < i
   ·rw [if_pos e,if_pos (show j + 1<=i by omega),if_pos (show j<=i by omega)]; exact hs j e
   ·rw [if_neg e,if_neg (show ¬ j + 1<=i by omega),if_pos (show j<=i by omega),show j=i by omega,fi]
    have:((p.2.toNat:Nat):Int)=p.2:=by omega
    rw [this]; exact hp
  ·rw [zbI,if_neg (Nat.lt_irrefl i)]
   show ext i b.2 p.1=_
   rw [hl,laysOf_congr (nm:=fun j=>if j < i then nm j else p.1) (nm':=nm) fun j hj=>if_pos hj]
   rfl
theorem zhm {C:Combs} {n:Nat} {a:Nat×List (Nat×Str)} (h:a∈WR C n n):a.1=0:=by
 cases n with
 | zero=>rw [List.mem_singleton.mp h]
 | succ n =>
  obtain ⟨b,hb,h⟩:=List.mem_flatMap.mp h
  obtain ⟨p,hp,rfl⟩:=List.mem_map.mp h
  have h2:=of_decide_eq_true (List.mem_filter.mp hp).2
  rw [show n + 1 - 1 - n=0 by omega] at h2
  have h2:0 < (if p.2.toNat=0 then 1 else 0):=h2
  show p.2.toNat=0
  by_cases z:p.2.toNat=0
  ·exact z
  ·rw [if_neg z] at h2; cases h2
theorem WR_cover {C:Combs} (g:GC C) (nd:(C.map (·.1)).Nodup) (ne:∀ c∈C,c.1≠Str.ofString "") {n:Nat} {a:Nat×List (Nat×Str)} (h:a∈WR C n n):a.2∈chs C n/\Cover C a.2 n/\a.2.Pairwise fun x y=>x.1 < y.1:=by
 obtain ⟨_,f,nm,f0,fi,hs,hl⟩:=zgQ g h
 rw [zhm h] at fi
 rw [hl]
 have:=path_cover g nd ne f0 fi hs
 exact ⟨this.1,this.2,laysOf_up nm n⟩
structure SelB (C:Combs) (x:Str) (B:Nat->Nat->Nat):Prop where
 sel:Sel C x B
 le:∀ k s,B k s<=Wy C k s
 no:x=Str.ofString "" -> ∀ k s,B k s=Wy C k s
noncomputable def has (x:Str) (l:List (Nat×Str)):Bool:=decide (x∈l.map (·.2))
theorem zhx {C:Combs} {B:Nat->Nat->Nat} (h:∀ k s,B k s=Wy C k s) (fl:Bool) (k s:Nat):ro C B fl k s=Wy C k s:=by
 unfold ro
 cases fl with
 | true=>rfl
 | false=>exact h k s
theorem zfT {C:Combs} {x:Str} {B:Nat->Nat->Nat} (fl:Bool) (k:Nat) (p:Str×Int):bh x (Wy C k) (ro C B fl k) p=ro C B (fl || decide (p.1=x)) k p.2.toNat:=by
 unfold bh ro
 by_cases e:p.1=x
 ·rw [if_pos e,decide_eq_true e,Bool.or_true]; rfl
 ·rw [if_neg e,decide_eq_false e,Bool.or_false]
theorem zf7 {C:Combs} {x:Str} {B:Nat->Nat->Nat} (S:SelB C x B) (i k s:Nat) (l:List (Nat×Str)) (y:Str):ro C B (has x l || decide (y=x)) k s=ro C B (has x (ext i l y)) k s:=by
 by_cases hx:x=Str.ofString ""
 ·rw [zhx (S.no hx),zhx (S.no hx)]
 ·congr 1
  unfold has ext
  by_cases hy:y=Str.ofString ""
  ·rw [if_pos hy,show decide (y=x)=false from decide_eq_false fun z=>hx (z.symm.trans hy),Bool.or_false]
  ·rw [if_neg hy,List.map_append,Bool.eq_iff_iff,Bool.or_eq_true,decide_eq_true_eq,decide_eq_true_eq,decide_eq_true_eq,List.mem_append,List.map_cons,List.map_nil,List.mem_singleton]
   exact or_congr Iff.rfl eq_comm
theorem zhy {C:Combs} {x:Str} {B:Nat->Nat->Nat} (S:SelB C x B) (fl:Bool) (k s:Nat):ro C B fl k s<=Wy C k s:=by
 unfold ro
 cases fl with
 | true=>exact Nat.le_refl _
 | false=>exact S.le k s
theorem zeo {α β : Type} (f : β -> Nat) (g : α -> List β):∀ l:List α,((l.flatMap g).map f).sum=(l.map fun a=>((g a).map f).sum).sum
 | []=>rfl
 | a :: l=>by rw [List.flatMap_cons,List.map_append,List.sum_append,List.map_cons,List.sum_cons,zeo f g l]
theorem zfi {α : Type} {p : α -> Bool} {f : α -> Nat}:∀ {l:List α},(∀ a∈l,p a=false->f a=0)->((l.filter p).map f).sum=(l.map f).sum
 | [],_=>rfl
 | a :: l,h=>by
  have ih:=zfi (p:=p) (f:=f) fun b hb=>h b (List.mem_cons_of_mem _ hb)
  rw [List.filter_cons,List.map_cons,List.sum_cons]
  cases e:p a with
  | true=>rw [if_pos rfl,List.map_cons,List.sum_cons,ih]
  | false=>rw [if_neg Bool.false_ne_true,ih,h a List.mem_cons_self e,Nat.zero_add]
noncomputable def wt (C:Combs) (x:Str) (B:Nat->Nat->Nat) (k:Nat) (a:Nat×List (Nat×Str)):Nat:=ro C B (has x a.2) k a.1
theorem zgP {C:Combs} {x:Str} {B:Nat->Nat->Nat} (S:SelB C x B) {n:Nat}:∀ i,i<=n->((WR C n i).map (wt C x B (n - i))).sum=B n 0
 | 0,_=>by
  show wt C x B (n - 0) (0,[]) + 0=_
  rfl
 | i + 1,hi=>by
  rw [<- zgP S i (by omega)]
  show (((WR C n i).flatMap _).map _).sum=_
  rw [zeo]
  refine zcM fun a _ => ?_
  rw [List.map_map,show n - i=n - (i + 1) + 1 by omega]
  show _=ro C B (has x a.2) (n - (i + 1) + 1) a.1
  rw [zeX S.sel]
  have e:∀ p:Str×Int,(wt C x B (n - (i + 1)) ∘ fun p:Str×Int=>(p.2.toNat,ext i a.2 p.1)) p=bh x (Wy C (n - (i + 1))) (ro C B (has x a.2) (n - (i + 1))) p:=fun p=>by
   rw [zfT,zf7 S i]
   rfl
  rw [List.map_congr_left fun p _=>e p]
  refine zfi fun p _ hp => ?_
  have:=of_decide_eq_false hp
  rw [zfT]
  have h2:=zhy S (has x a.2 || decide (p.1=x)) (n - (i + 1)) p.2.toNat
  rw [show n - 1 - i=n - (i + 1) by omega] at this
  omega
theorem zeM {α β : Type} {p : β -> Bool} {q : α -> Bool} {g : α -> List β}:∀ {l:List α} {a : α} {b : β},(∀ a∈l,q a=false->(g a).find? p=none)->l.find? q=some a->(g a).find? p=some b->(l.flatMap g).find? p=some b
 | x :: l,a,b,h,hf,hb=>by
  rw [List.flatMap_cons,List.find?_append]
  rw [List.find?_cons] at hf
  cases e:q x with
  | true =>
   rw [e] at hf
   cases hf
   rw [hb]; rfl
  | false =>
   rw [e] at hf
   rw [h x List.mem_cons_self e]
   exact zeM (fun y hy=>h y (List.mem_cons_of_mem _ hy)) hf hb
theorem zbA {α : Type} {p q : α -> Bool} (h:∀ a,p a=true->q a=true):∀ l:List α,(l.filter q).find? p=l.find? p
 | []=>rfl
 | a :: l=>by
  rw [List.filter_cons,List.find?_cons]
  cases e:q a with
  | true=>rw [if_pos rfl,List.find?_cons,zbA h l]
  | false =>
   have:p a=false:=by
    cases z:p a with
    | false=>rfl
    | true=>rw [h a z] at e; cases e
   rw [if_neg Bool.false_ne_true,this,zbA h l]
theorem zek {C:Combs} (g:GC C) {x:Str} {B:Nat->Nat->Nat} (S:SelB C x B) {n:Nat} (h:0 < B n 0):∀ i,i<=n->(WR C n i).find? (fun a=>decide (0 < wt C x B (n - i) a))=some ((fw C x B n i).1,laysOf (fnm C x B n) i)/\∀ k s,ro C B (has x (laysOf (fnm C x B n) i)) k s=ro C B (fw C x B n i).2 k s
 | 0,_=>by
  refine ⟨?_,fun k s=>rfl⟩
  show [(0,[])].find? _=_
  rw [List.find?_cons,decide_eq_true (show 0 < wt C x B (n - 0) (0,[]) from h)]
  rfl
 | i + 1,hi=>by
  obtain ⟨h1,h2⟩:=zek g S h i (by omega)
  obtain ⟨b1,b2,b3⟩:=zgy g S.sel h (show i < n by omega)
  have key:∀ (a:Nat×List (Nat×Str)) (p:Str×Int),decide (0 < wt C x B (n - (i + 1)) (p.2.toNat,ext i a.2 p.1))=decide (0 < bh x (Wy C (n - 1 - i)) (ro C B (has x a.2) (n - 1 - i)) p):=fun a p=>by
   rw [zfT,zf7 S i,show n - 1 - i=n - (i + 1) by omega]
   rfl
  have hle:∀ (fl:Bool) (p:Str×Int),decide (0 < bh x (Wy C (n - 1 - i)) (ro C B fl (n - 1 - i)) p)=true->decide (0 < Wy C (n - 1 - i) p.2.toNat)=true:=fun fl p hp=>by
   have:=of_decide_eq_true hp
   rw [zfT] at this
   exact decide_eq_true (Nat.lt_of_lt_of_le this (zhy S _ _ _))
  have efl:∀ k s,ro C B (has x (laysOf (fnm C x B n) (i + 1))) k s=ro C B (fw C x B n (i + 1)).2 k s:=fun k s=>by
   rw [zbI]
   show ro C B (has x (ext i (laysOf (fnm C x B n) i) (fnm C x B n i))) k s=_
   rw [<- zf7 S i,b2]
   by_cases e:fnm C x B n i=x
   ·rw [decide_eq_true e,Bool.or_true,Bool.or_true]
   ·rw [decide_eq_false e,Bool.or_false,Bool.or_false,h2]
  refine ⟨?_,efl⟩
  refine zeM (q:=fun a=>decide (0 < wt C x B (n - i) a)) (fun a _ ha => ?_) h1 ?_
  ·rw [List.find?_eq_none]
   intro b hb hb2
   obtain ⟨p,hp,rfl⟩:=List.mem_map.mp hb
   have hp:=(List.mem_filter.mp hp).1
   rw [key] at hb2
   have ha:=of_decide_eq_false ha
   unfold wt at ha
   rw [show n - i=n - 1 - i + 1 by omega,zeX S.sel] at ha
   exact ha (sum_pos.mpr ⟨p,hp,of_decide_eq_true hb2⟩)
  ·rw [List.find?_map]
   have e:((fun a=>decide (0 < wt C x B (n - (i + 1)) a)) ∘ fun p:Str×Int=>(p.2.toNat,ext i (laysOf (fnm C x B n) i) p.1))=fun p=>decide (0 < bh x (Wy C (n - 1 - i)) (ro C B (fw C x B n i).2 (n - 1 - i)) p):=by
    funext p
    show decide _=_
    rw [key ((fw C x B n i).1,laysOf (fnm C x B n) i) p,zfT,zfT]
    by_cases z:p.1=x
    ·rw [decide_eq_true z,Bool.or_true,Bool.or_true]
    ·rw [decide_eq_false z,Bool.or_false,Bool.or_false,h2]
   rw [e,zbA (hle (fw C x B n i).2)]
   unfold sel at b1
   rw [b1]
   show some (((fw C x B n (i + 1)).1:Int).toNat,ext i (laysOf (fnm C x B n) i) (fnm C x B n i))=_
   rw [Int.toNat_natCast,zbI]
   rfl
theorem zfY (C:Combs):SelB C (Str.ofString "") (Wy C):=⟨zgS C _,fun _ _=>Nat.le_refl _,fun _ _ _=>rfl⟩
theorem zfZ (C:Combs) {x:Str} (hx:x≠Str.ofString ""):SelB C x (Ww C x):=⟨zhu C x,fun k s=>by rw [zdP hx]; exact Nat.le_add_right _ _,fun z=>absurd z hx⟩
theorem zfc {C:Combs} {x:Str} {B:Nat->Nat->Nat} {n:Nat} {a:Nat×List (Nat×Str)} (h:a∈WR C n n):wt C x B 0 a=if has x a.2=true then 1 else B 0 0:=by
 unfold wt ro
 rw [zhm h]
 split <;> rfl
theorem zdR {α : Type} {p : α -> Bool} {f : α -> Nat}:∀ {l:List α},(∀ a∈l,f a=if p a=true then 1 else 0)->(l.map f).sum=(l.filter p).length
 | [],_=>rfl
 | a :: l,h=>by
  have ih:=zdR (p:=p) fun b hb=>h b (List.mem_cons_of_mem _ hb)
  rw [List.map_cons,List.sum_cons,h a List.mem_cons_self,ih,List.filter_cons]
  cases p a with
  | true=>rw [if_pos rfl,if_pos rfl,List.length_cons,Nat.add_comm]
  | false=>rw [if_neg Bool.false_ne_true,if_neg Bool.false_ne_true,Nat.zero_add]
theorem zhn (C:Combs) (n:Nat):(WR C n n).length=Wy C n 0:=by
 rw [<- zgP (zfY C) n (Nat.le_refl n),Nat.sub_self,zdR (p:=fun _=>true) fun a ha => ?_,List.filter_eq_self.mpr fun _ _=>rfl]
 rw [zfc ha,if_pos rfl]
 split
 ·rfl
 ·exact (if_pos rfl:(if (0:Nat)=0 then 1 else 0)=1)
theorem WR_with (C:Combs) {x:Str} (hx:x≠Str.ofString "") (n:Nat):((WR C n n).filter fun a=>has x a.2).length=Ww C x n 0:=by
 rw [<- zgP (zfZ C hx) n (Nat.le_refl n),Nat.sub_self,zdR (p:=fun a=>has x a.2) fun a ha => ?_]
 rw [zfc ha]
 rfl
theorem WR_head_all {C:Combs} (g:GC C) {n:Nat} (h:0 < Wy C n 0):∃ s,(WR C n n).head?=some (s,laysOf (fnm C (Str.ofString "") (Wy C) n) n):=by
 have:=(zek g (zfY C) h n (Nat.le_refl n)).1
 rw [Nat.sub_self,<- List.head?_filter,List.filter_eq_self.mpr fun a ha => ?_] at this
 ·exact ⟨_,this⟩
 ·rw [zfc ha]
  split
  ·rfl
  ·exact decide_eq_true (show 0 < (if (0:Nat)=0 then 1 else 0) by rw [if_pos rfl]; exact Nat.one_pos)
theorem WR_head_with {C:Combs} (g:GC C) {x:Str} (hx:x≠Str.ofString "") {n:Nat} (h:0 < Ww C x n 0):∃ s,((WR C n n).filter fun a=>has x a.2).head?=some (s,laysOf (fnm C x (Ww C x) n) n):=by
 have:=(zek g (zfZ C hx) h n (Nat.le_refl n)).1
 rw [Nat.sub_self,<- List.head?_filter] at this
 refine ⟨_,Eq.trans (congrArg List.head? (List.filter_congr fun a ha => ?_)) this⟩
 rw [zfc ha]
 cases has x a.2 with
 | true=>rfl
 | false=>rfl
noncomputable def EvR (H:Hp) (ws:List V) (ls:List (List (Nat×Str))):Prop:=Paired (fun (x:List (Nat×Str)) (v:V)=>∃ l wl,v = .ref l/\H l=some (.lst wl)/\LyR H wl x) ls ws
theorem EvR.same {H H':Hp} {ws:List V} {ls:List (List (Nat×Str))} (r:EvR H ws ls) (s:Same H H'):EvR H' ws ls:=Paired.mapP r fun _ _ ⟨l,wl,a,b,c⟩=>⟨l,wl,a,s _ _ b,c.mono fun _ _ e=>s _ _ e⟩
theorem zc3 {α : Type} {R : α -> V->Prop} {L:List α} {ws:List V} (d : α) (r:Paired R L ws):∀ {l:List Nat},(∀ j∈l,j < ws.length)->Paired R (l.map fun j=>L.getD j d) (l.map fun j=>ws.getD j .non)
 | [],_ => .nil
 | j :: l,h=>by
  have hj:=h j List.mem_cons_self
  have hl:=Paired.length r
  obtain ⟨y,ey,ry⟩:=Paired.at r (List.getElem?_eq_getElem (show j < L.length by omega))
  refine .cons ?_ (zc3 d r fun i hi=>h i (List.mem_cons_of_mem _ hi))
  show R (L.getD j d) (ws.getD j V.non)
  rw [List.getD_eq_getElem?_getD,List.getD_eq_getElem?_getD,ey,List.getElem?_eq_getElem (show j < L.length by omega)]
  exact ry
theorem paired_filter {α : Type} {R : α -> V->Prop} {L:List α} {ws:List V} (d : α) (r:Paired R L ws) (p : α -> Bool):Paired R (L.filter p) (((List.range ws.length).filter fun j=>p (L.getD j d)).map fun j=>ws.getD j .non):=by
 have eT:((List.range ws.length).filter fun j=>p (L.getD j d)).map (fun j=>L.getD j d)=L.filter p:=by
  have:=filter_idx L p d
  rwa [show L.length=ws.length from Paired.length r] at this
 rw [<- eT]
 exact zc3 d r fun j hj=>List.mem_range.mp (List.mem_filter.mp hj).1
noncomputable def lyD (x:List (Nat×Str)):PyData := .list (x.map fun y => .tuple [.int (y.1:Int),.str y.2])
theorem zhq {K:W.Frag} {H:Hp} {wl:List V} {x:List (Nat×Str)} (r:LyR H wl x):VDs K H wl (x.map fun y => .tuple [.int (y.1:Int),.str y.2]):=by
 unfold LyR at r
 induction r with
 | nil=>exact .nil
 | cons h _ ih =>
  obtain ⟨q,rfl,e⟩:=h
  exact .cons (.tup (SqT.of e) (.cons (.int _) (.cons (.str _) .nil))) ih
theorem zhs {K:W.Frag} {H:Hp} {ws:List V} {ls:List (List (Nat×Str))} (r:EvR H ws ls):VDs K H ws (ls.map lyD):=by
 unfold EvR at r
 induction r with
 | nil=>exact .nil
 | cons h _ ih =>
  obtain ⟨l,wl,rfl,e1,e2⟩:=h
  exact .cons (.lst (SqL.of e1) (zhq e2)) ih
theorem zgp:∀ {x:List (Nat×Str)},(∀ y∈x,PyData.strOk y.2=true)->PyData.canLayAll0 (x.map fun y => .tuple [.int (y.1:Int),.str y.2])=true
 | [],_=>rfl
 | y :: x,h=>by
  have i:=zgp fun z hz=>h z (List.mem_cons_of_mem _ hz)
  have:=h y List.mem_cons_self
  rw [List.map_cons,PyData.canLayAll0,i]
  simp [PyData.canLay0,PyData.canLayAll0,this]
theorem zd6:∀ x:List (Nat×Str),PyData.depthAll (x.map fun y => .tuple [.int (y.1:Int),.str y.2])<=1
 | []=>Nat.zero_le _
 | y :: x=>by
  have:=zd6 x
  rw [List.map_cons,PyData.depthAll]
  have:PyData.depth (.tuple [.int (y.1:Int),.str y.2])=1:=by simp [PyData.depth,PyData.depthAll]
  omega
theorem zha:∀ {ls:List (List (Nat×Str))},(∀ x∈ls,∀ y∈x,PyData.strOk y.2=true)->PyData.canLayAll0 (ls.map lyD)=true
 | [],_=>rfl
 | x :: ls,h=>by
  have i:=zha fun z hz=>h z (List.mem_cons_of_mem _ hz)
  have j:=zgp (h x List.mem_cons_self)
  rw [List.map_cons,PyData.canLayAll0,i]
  unfold lyD
  rw [PyData.canLay0,j]
  rfl
theorem zfM:∀ ls:List (List (Nat×Str)),PyData.depthAll (ls.map lyD)<=2
 | []=>Nat.zero_le _
 | x :: ls=>by
  have h1:=zfM ls
  have h2:=zd6 x
  rw [List.map_cons,PyData.depthAll]
  have h3:PyData.depth (lyD x)<=2:=by unfold lyD; rw [PyData.depth]; omega
  omega
theorem zdd {ls:List (List (Nat×Str))} (h:∀ x∈ls,∀ y∈x,PyData.strOk y.2=true):SeqAt.shaped (.list (ls.map lyD))=true:=by
 have h1:=zha h
 have h2:=zfM ls
 have h3:PyData.depth (.list (ls.map lyD))<=64:=by rw [PyData.depth]; omega
 have h4:PyData.canLay0 (.list (ls.map lyD))=true:=by rw [PyData.canLay0,h1]
 unfold SeqAt.shaped
 rw [h4,decide_eq_true h3]
 rfl
theorem zez {x:List (Nat×Str)} (h:∀ y∈x,PyData.strOk y.2=true):SeqAt.shaped (lyD x)=true:=by
 have h1:=zgp h
 have h2:=zd6 x
 have h3:PyData.depth (lyD x)<=64:=by unfold lyD; rw [PyData.depth]; omega
 have h4:PyData.canLay0 (lyD x)=true:=by unfold lyD; rw [PyData.canLay0,h1]
 unfold SeqAt.shaped
 rw [h4,decide_eq_true h3]
 rfl
theorem zgD {ls:List (List (Nat×Str))}:PyData.eqv (.list (ls.map lyD)) (.list [])=decide (ls = []):=by
 cases ls with
 | nil=>decide
 | cons a l=>rw [decide_eq_false nofun]; simp [PyData.eqv,PyData.eqvAll]
theorem zg6:∀ x:List (Nat×Str),PyData.eqvAll (x.map fun y => .tuple [.int (y.1:Int),.str y.2]) (x.map fun y => .tuple [.int (y.1:Int),.str y.2])=true
 | []=>rfl
 | y :: x=>by
  have:=zg6 x
  rw [List.map_cons,PyData.eqvAll,this]
  simp [PyData.eqv,PyData.eqvAll]
theorem pi_list' {X:Cx} {tg l:Expr} {tl:TE} (K:W.Frag) (h:X.K=K) (hl:PE X l tl):PI X tg l (iList K tl):=by
 subst h
 exact zav hl
noncomputable def DL (l m:List (Nat×Str)):Prop:=∃ P x y A B,l.map (·.2)=P ++ x :: A/\m.map (·.2)=P ++ y :: B/\x.cps.toList < y.cps.toList
theorem DL.lt {l m:List (Nat×Str)} (h:DL l m):ltS (l.map (·.2)) (m.map (·.2))=true/\ltS (m.map (·.2)) (l.map (·.2))=false:=by
 obtain ⟨P,x,y,A,B,e1,e2,h⟩:=h
 rw [e1,e2]
 exact zgr h _ _ _
theorem DL.ne {l m:List (Nat×Str)} (h:DL l m):l≠m:=fun z=>by
 have:=h.lt.1
 rw [z,zgq] at this
 cases this
theorem zeN (i:Nat) (l:List (Nat×Str)) (x:Str):∃ T,(ext i l x).map (·.2)=l.map (·.2) ++ T:=by
 unfold ext
 by_cases h:x=Str.ofString ""
 ·rw [if_pos h]; exact ⟨[],(List.append_nil _).symm⟩
 ·rw [if_neg h,List.map_append]; exact ⟨[x],rfl⟩
theorem DL.ext {l m:List (Nat×Str)} (h:DL l m) (i:Nat) (a b:Str):DL (L2.ext i l a) (L2.ext i m b):=by
 obtain ⟨P,x,y,A,B,e1,e2,h⟩:=h
 obtain ⟨T,t⟩:=zeN i l a
 obtain ⟨U,u⟩:=zeN i m b
 exact ⟨P,x,y,A ++ T,B ++ U,by rw [t,e1,List.append_assoc]; rfl,by rw [u,e2,List.append_assoc]; rfl,h⟩
theorem DL.last {l:List (Nat×Str)} {x y:Str} (i:Nat) (hx:x≠Str.ofString "") (hy:y≠Str.ofString "") (h:x.cps.toList < y.cps.toList):DL (L2.ext i l x) (L2.ext i l y):=by
 refine ⟨l.map (·.2),x,y,[],[],?_,?_,h⟩
 ·unfold L2.ext; rw [if_neg hx,List.map_append]; rfl
 ·unfold L2.ext; rw [if_neg hy,List.map_append]; rfl
theorem zcC {C:Combs} (nd:(C.map (·.1)).Nodup) (ne:∀ c∈C,c.1≠Str.ofString "") (o:Ord C) (n:Nat):∀ i,(WR C n i).Pairwise fun a b=>DL a.2 b.2
 | 0=>List.pairwise_singleton _ _
 | i + 1=>by
  refine List.pairwise_flatMap.mpr ⟨fun a _ => ?_,(zcC nd ne o n i).imp fun {a b} h x hx y hy => ?_⟩
  ·rw [List.pairwise_map]
   have h1:((stp C a.1).filter fun p=>decide (0 < Wy C (n - 1 - i) p.2.toNat)).Pairwise fun p q=>p.1.cps.toList < q.1.cps.toList:=List.Pairwise.sublist List.filter_sublist (stp_ord o a.1)
   refine h1.imp_of_mem fun {p q} hp hq h => ?_
   have hp:=(List.mem_filter.mp hp).1
   have hq:=(List.mem_filter.mp hq).1
   have hne:p≠q:=fun z=>by rw [z] at h; exact List.lt_irrefl _ h
   exact DL.last i (zgV ne hp hq hne) (zgV ne hq hp (Ne.symm hne)) h
  ·obtain ⟨p,_,rfl⟩:=List.mem_map.mp hx
   obtain ⟨q,_,rfl⟩:=List.mem_map.mp hy
   exact h.ext i p.1 q.1
theorem zgg {α : Type} [DecidableEq α]:∀ {l m:List α},l.Nodup->(∀ a∈l,a∈m)->m.length<=l.length->l.Perm m
 | [],m,_,_,h=>by rw [List.length_eq_zero_iff.mp (Nat.le_zero.mp h)]
 | a :: l,m,nd,hs,h=>by
  rw [List.nodup_cons] at nd
  have ha:=hs a List.mem_cons_self
  refine List.Perm.trans ?_ (List.perm_cons_erase ha).symm
  refine List.Perm.cons a (zgg nd.2 (fun b hb => ?_) ?_)
  ·exact (List.mem_erase_of_ne (fun z:b=a=>nd.1 (by rw [<- z]; exact hb))).mpr (hs b (List.mem_cons_of_mem _ hb))
  ·rw [List.length_erase_of_mem ha]
   rw [List.length_cons] at h
   omega
theorem zfN {C C':Combs} (h:∀ c∈C,∃ d∈C',d.1=c.1):∀ {p:Nat} {l:List (Nat×Str)},l∈chs C p->l∈chs C' p
 | 0,_,hl=>hl
 | p + 1,l,hl=>by
  obtain ⟨r,hr,hl⟩:=List.mem_flatMap.mp hl
  refine List.mem_flatMap.mpr ⟨r,zfN h hr,?_⟩
  rcases List.mem_cons.mp hl with rfl | hl
  ·exact List.mem_cons_self
  ·obtain ⟨c,hc,rfl⟩:=List.mem_map.mp hl
   obtain ⟨d,hd,e⟩:=h c hc
   exact List.mem_cons_of_mem _ (List.mem_map.mpr ⟨d,hd,by rw [e]⟩)
noncomputable def cvs (C:Combs) (n:Nat):List (List (Nat×Str)):=(chs C n).filter (shpB C n 0)
theorem zej {ks:Combs} (g:GC ks) (nd:(ks.map (·.1)).Nodup) (ne:∀ c∈ks,c.1≠Str.ofString "") (n:Nat):((WR (srt ks) n n).map (·.2)).Perm (cvs ks n):=by
 have pm:=zco nd
 have gs:GC (srt ks):=fun c hc=>g c (pm.mem_iff.mp hc)
 have nds:((srt ks).map (·.1)).Nodup:=(pm.map _).nodup_iff.mpr nd
 have nes:∀ c∈srt ks,c.1≠Str.ofString "" := fun c hc=>ne c (pm.mem_iff.mp hc)
 refine zgg ?_ (fun l hl => ?_) ?_
 ·have:=zcC nds nes (zeW nd) n n
  unfold List.Nodup
  rw [List.pairwise_map]
  exact this.imp fun h=>h.ne
 ·obtain ⟨a,ha,rfl⟩:=List.mem_map.mp hl
  obtain ⟨h1,h2,_⟩:=WR_cover gs nds nes ha
  have h1':=zfN (C':=ks) (fun c hc=>⟨c,pm.mem_iff.mp hc,rfl⟩) h1
  exact List.mem_filter.mpr ⟨h1',(zeO g h1').mpr (cover_perm pm nds h2)⟩
 ·rw [List.length_map,zhn,zgO pm,Wy_cnt g nd ne]
  exact Nat.le_refl _
theorem zdK {l:List (List (Nat×Str))} (h:l.Pairwise DL) {x:List (Nat×Str)} (hx:l.head?=some x):x∈l/\∀ y∈l,y=x\/DL x y:=by
 cases l with
 | nil=>cases hx
 | cons a l =>
  cases hx
  rw [List.pairwise_cons] at h
  refine ⟨List.mem_cons_self,fun y hy => ?_⟩
  rcases List.mem_cons.mp hy with rfl | hy
  ·exact .inl rfl
  ·exact .inr (h.1 y hy)
theorem cvs_first {ks:Combs} (g:GC ks) (nd:(ks.map (·.1)).Nodup) (ne:∀ c∈ks,c.1≠Str.ofString "") {n:Nat} (h:0 < Wy (srt ks) n 0):laysOf (fnm (srt ks) (Str.ofString "") (Wy (srt ks)) n) n∈cvs ks n/\∀ y∈cvs ks n,y=laysOf (fnm (srt ks) (Str.ofString "") (Wy (srt ks)) n) n\/DL (laysOf (fnm (srt ks) (Str.ofString "") (Wy (srt ks)) n) n) y:=by
 have pm:=zco nd
 have gs:GC (srt ks):=fun c hc=>g c (pm.mem_iff.mp hc)
 have nds:((srt ks).map (·.1)).Nodup:=(pm.map _).nodup_iff.mpr nd
 have nes:∀ c∈srt ks,c.1≠Str.ofString "" := fun c hc=>ne c (pm.mem_iff.mp hc)
 have so:((WR (srt ks) n n).map (·.2)).Pairwise DL:=List.pairwise_map.mpr (zcC nds nes (zeW nd) n n)
 obtain ⟨s,hs⟩:=WR_head_all gs h
 have hd:((WR (srt ks) n n).map (·.2)).head?=some (laysOf (fnm (srt ks) (Str.ofString "") (Wy (srt ks)) n) n):=by rw [List.head?_map,hs]; rfl
 obtain ⟨h1,h2⟩:=zdK so hd
 have pp:=zej g nd ne n
 exact ⟨pp.mem_iff.mp h1,fun y hy=>h2 y (pp.mem_iff.mpr hy)⟩
theorem cvs_len {ks:Combs} (g:GC ks) (nd:(ks.map (·.1)).Nodup) (ne:∀ c∈ks,c.1≠Str.ofString "") (n:Nat):(cvs ks n).length=Wy (srt ks) n 0:=by
 rw [<- (zej g nd ne n).length_eq,List.length_map,zhn]
theorem zdN (x:Str) (l:List (Nat×List (Nat×Str))):(l.map (·.2)).filter (has x)=(l.filter fun a=>has x a.2).map (·.2):=by
 rw [List.filter_map]; rfl
theorem cvs_with {ks:Combs} (g:GC ks) (nd:(ks.map (·.1)).Nodup) (ne:∀ c∈ks,c.1≠Str.ofString "") {x:Str} (hx:x≠Str.ofString "") (n:Nat):((cvs ks n).filter (has x)).length=Ww (srt ks) x n 0:=by
 rw [<- ((zej g nd ne n).filter (has x)).length_eq,zdN,List.length_map,WR_with _ hx]
theorem cvs_first_with {ks:Combs} (g:GC ks) (nd:(ks.map (·.1)).Nodup) (ne:∀ c∈ks,c.1≠Str.ofString "") {x:Str} (hx:x≠Str.ofString "") {n:Nat} (h:0 < Ww (srt ks) x n 0):laysOf (fnm (srt ks) x (Ww (srt ks) x) n) n∈(cvs ks n).filter (has x)/\∀ y∈(cvs ks n).filter (has x),y=laysOf (fnm (srt ks) x (Ww (srt ks) x) n) n\/DL (laysOf (fnm (srt ks) x (Ww (srt ks) x) n) n) y:=by
 have pm:=zco nd
 have gs:GC (srt ks):=fun c hc=>g c (pm.mem_iff.mp hc)
 have nds:((srt ks).map (·.1)).Nodup:=(pm.map _).nodup_iff.mpr nd
 have nes:∀ c∈srt ks,c.1≠Str.ofString "" := fun c hc=>ne c (pm.mem_iff.mp hc)
 have so:((WR (srt ks) n n).map (·.2)).Pairwise DL:=List.pairwise_map.mpr (zcC nds nes (zeW nd) n n)
 have so':=List.Pairwise.sublist (List.filter_sublist (p:=has x)) so
 obtain ⟨s,hs⟩:=WR_head_with gs hx h
 have hd:(((WR (srt ks) n n).map (·.2)).filter (has x)).head?=some (laysOf (fnm (srt ks) x (Ww (srt ks) x) n) n):=by rw [zdN,List.head?_map,hs]; rfl
 obtain ⟨h1,h2⟩:=zdK so' hd
 have pp:=(zej g nd ne n).filter (has x)
 exact ⟨pp.mem_iff.mp h1,fun y hy=>h2 y (pp.mem_iff.mpr hy)⟩
end L2
set_option maxHeartbeats 4000000
namespace K37
open PySem L2 PyProof.Rows
noncomputable def top (i:Nat):Stmt:=PySem.Challenge.pw_combstrip_k37_whole_small_planks.main.body.getD i (.Pass ⟨0,0,0,0⟩)
noncomputable abbrev s__wall:Stmt:=top 0
noncomputable abbrev s_shape_steps:Stmt:=top 27
noncomputable abbrev s_teeth_worth:Stmt:=top 28
noncomputable abbrev s_step_table:Stmt:=top 29
noncomputable abbrev s_shapes_behind:Stmt:=top 30
noncomputable abbrev s_first_filling:Stmt:=top 32
noncomputable abbrev s_count_fillings:Stmt:=top 33
noncomputable abbrev s_first_filling_with:Stmt:=top 34
noncomputable abbrev s_count_fillings_with:Stmt:=top 35
noncomputable abbrev s_check_length:Stmt:=top 36
noncomputable abbrev s_ways_to_close:Stmt:=top 37
noncomputable abbrev s_ways_to_lay:Stmt:=top 38
noncomputable abbrev s_ways_from:Stmt:=top 39
noncomputable abbrev s_ways_behind:Stmt:=top 40
noncomputable abbrev s_lay_first:Stmt:=top 41
noncomputable abbrev s_first_open_step:Stmt:=top 42
noncomputable abbrev s_is_name:Stmt:=top 44
noncomputable abbrev s_is_small_letter:Stmt:=top 45
noncomputable abbrev s_are_teeth:Stmt:=top 46
noncomputable abbrev s_Book___init__:Stmt:=inClass (top 48) 0
noncomputable abbrev s_Book_put:Stmt:=inClass (top 48) 1
noncomputable abbrev s_Book_drop:Stmt:=inClass (top 48) 2
noncomputable abbrev s_Book_add_tooth:Stmt:=inClass (top 48) 3
noncomputable abbrev s_Book_take_off:Stmt:=inClass (top 48) 4
noncomputable abbrev s_Book_undo:Stmt:=inClass (top 48) 5
noncomputable abbrev s_Book_deeds:Stmt:=inClass (top 48) 6
noncomputable abbrev s_Book_names:Stmt:=inClass (top 48) 7
noncomputable abbrev s_Book_teeth:Stmt:=inClass (top 48) 8
noncomputable abbrev s_Book_check_comb:Stmt:=inClass (top 48) 9
noncomputable abbrev s_Book_set_comb:Stmt:=inClass (top 48) 10
noncomputable abbrev s_Book_do_deed:Stmt:=inClass (top 48) 11
noncomputable abbrev s_fits_flush:Stmt:=top 50
noncomputable abbrev s_shortest_length:Stmt:=top 51
noncomputable abbrev s_least_lengths:Stmt:=top 52
noncomputable abbrev s_is_reached:Stmt:=top 53
noncomputable abbrev s_at:Stmt:=top 55
noncomputable abbrev s_mixed:Stmt:=top 56
noncomputable abbrev s_word:Stmt:=top 57
noncomputable abbrev s_spare:Stmt:=top 58
noncomputable abbrev s_menu:Stmt:=top 59
noncomputable abbrev s_combs:Stmt:=top 60
noncomputable abbrev s_book:Stmt:=top 61
noncomputable abbrev s_teeth:Stmt:=top 62
noncomputable abbrev s_choices:Stmt:=top 63
noncomputable abbrev s_tally:Stmt:=top 64
noncomputable abbrev s_whole:Stmt:=top 65
noncomputable abbrev s_laying:Stmt:=top 66
noncomputable abbrev s_layings:Stmt:=top 67
noncomputable abbrev s_kind:Stmt:=top 68
noncomputable abbrev s_refused:Stmt:=top 69
noncomputable abbrev s_told:Stmt:=top 70
noncomputable abbrev s_ask:Stmt:=top 71
noncomputable abbrev s_right:Stmt:=top 72
noncomputable abbrev s_law:Stmt:=top 73
section
variable {P:Program} {w:World} {K:W.Frag} {mg:Str->Option Value} {base:Heap}
noncomputable def sp_at (K:W.Frag):Sp:=fun vs H Q _=>∃ (a:Addr) (ns:List Int) (k:Int),vs = [.ref a,.int k]/\SqL K H a (ns.map V.int)/\0<=k/\Q (.int (ns.getD k.toNat 0)) H
theorem zhv:FnScope ["_law_script","_law_k"] ["_law_script","_law_k"] (defScope s_at):=⟨rfl,rfl,rfl,by decide +kernel,rfl,by decide +kernel,by decide +kernel⟩
theorem ok_at (D:DefAt K mg "_law_at" s_at) (T:Bn mg):Callee P w K mg base "_law_at" 1 ["_law_script","_law_k"] (sp_at K):=by
 refine D.callee zhv (fun _ _ _ _ _ _=>ln2 fun _ _=>rfl) (fun vs H Q E h => ?_) (fun f cdv A outer s H vs Q E hr h => ?_)
 ·obtain ⟨a,ns,k,rfl,_⟩:=h
  rfl
 ·obtain ⟨a,ns,k,rfl,hS,h0,q⟩:=h
  have S:=zhv
  refine ⟨_,zad (zaM (zar zhA (pv 1) (zai zau rfl T.n_len PySem.boot_len (zaa (pv 0) zac)) (zaw _))
   (zag (zaj (zaC zaI (pv 0) (pv 1) (fun _ _=>rfl))))
   (zao))
  (zag (zaj (zab))),?_⟩
  refine ⟨_,rfl,_,rfl,_,_,rfl,.inl hS,_,_,rfl,rfl,_,rfl,?_⟩
  refine ite2 (fun hc => ?_) (fun hc => ?_)
  ·have hc:=of_decide_eq_true hc
   rw [List.length_map] at hc
   exact ⟨_,rfl,_,rfl,_,_,_,_,rfl,rfl,hS,zhk h0 hc,q⟩
  ·have hc:¬ k < (ns.length:Int):=fun z=>hc (decide_eq_true (by rw [List.length_map]; exact z))
   rw [getD_big hc] at q
   exact q
noncomputable def mixed (c k:Int):Int:=((c + 7919 * k + 1) * 48271 % 2147483647 + 104729 * k + 3) * 69621 % 2147483647
noncomputable def sp_mixed:Sp:=fun vs H Q _=>∃ (c k:Int),vs = [.int c,.int k]/\Q (.int (mixed c k)) H
theorem zft:FnScope ["_law_cell","_law_k","_law_once"] ["_law_cell","_law_k"] (defScope s_mixed):=⟨rfl,rfl,rfl,by decide +kernel,rfl,by decide +kernel,by decide +kernel⟩
theorem ok_mixed (D:DefAt K mg "_law_mixed" s_mixed) (T:Bn mg):Callee P w K mg base "_law_mixed" 1 ["_law_cell","_law_k"] sp_mixed:=by
 refine D.callee zft (fun _ _ _ _ _ _=>ln2 fun _ _=>rfl) (fun vs H Q E h => ?_) (fun f cdv A outer s H vs Q E hr h => ?_)
 ·obtain ⟨c,k,rfl,_⟩:=h
  rfl
 ·obtain ⟨c,k,rfl,q⟩:=h
  have S:=zft
  refine ⟨_,zad (zan (i:=2) S.nd rfl (Or.inl rfl) (zax zbl (zax zew (zax zbp (zax zbp (pv 0) (zax zew (zab) (pv 1))) (zab)) (zab)) (zab)))
  (zag (zaj (zax zbl (zax zew (zax zbp (zax zbp (pv 2) (zax zew (zab) (pv 1))) (zab)) (zab)) (zab)))),?_⟩
  refine ⟨_,rfl,_,rfl,_,_,rfl,rfl,.inl ⟨by decide,by decide⟩,_,_,rfl,rfl,_,_,rfl,rfl,_,_,rfl,rfl,.inr ⟨by decide,by decide⟩,_,_,rfl,rfl,by show (0:Int) < 2147483647; decide,?_⟩
  exact ⟨_,rfl,_,rfl,_,_,rfl,rfl,.inl ⟨by decide,by decide⟩,_,_,rfl,rfl,_,_,rfl,rfl,_,_,rfl,rfl,.inr ⟨by decide,by decide⟩,_,_,rfl,rfl,by show (0:Int) < 2147483647; decide,q⟩
noncomputable def sp_whole:Sp:=fun vs H Q _=>∃ (i:Int),vs = [.int i]/\Q (.bl true) H
theorem zfo:FnScope ["_law_found"] ["_law_found"] (defScope s_whole):=⟨rfl,rfl,rfl,by decide +kernel,rfl,by decide +kernel,by decide +kernel⟩
theorem ok_whole (D:DefAt K mg "_law_whole" s_whole) (T:Bn mg):Callee P w K mg base "_law_whole" 1 ["_law_found"] sp_whole:=by
 refine D.callee zfo (fun _ _ _ _ _ _=>ln1 fun _=>rfl) (fun vs H Q E h => ?_) (fun f cdv A outer s H vs Q E hr h => ?_)
 ·obtain ⟨i,rfl,_⟩:=h
  rfl
 ·obtain ⟨i,rfl,q⟩:=h
  have S:=zfo
  refine ⟨_,zag (zaj (zdF (zai (zbx "int") rfl T.n_isinstance boot_isinstance (zaa (pv 0) (zaa (zbX (v := .ty "int") rfl T.n_int boot_int rfl) zac))) (zet (pe_not (zai (zbx "bool") rfl T.n_isinstance boot_isinstance (zaa (pv 0) (zaa (zbX (v := .ty "bool") rfl T.n_bool boot_bool rfl) zac))))))),?_⟩
  refine ⟨_,rfl,_,_,true,rfl,.int i,rfl,_,rfl,?_⟩
  refine iteT ?_
  exact ⟨_,rfl,_,_,false,rfl,.int i,rfl,_,rfl,q⟩
noncomputable def sp_word:Sp:=fun vs H Q _=>∃ (c b:Int),vs = [.int c,.int b]/\(b=26\/b=2)/\∀ x:Str,isName x=true->Q (.str x) H
theorem zf0:FnScope ["_law_cell","_law_base","_law_word_here","_law_rest","_law_k"] ["_law_cell","_law_base"] (defScope s_word):=⟨rfl,rfl,rfl,by decide +kernel,rfl,by decide +kernel,by decide +kernel⟩
theorem ok_word (D:DefAt K mg "_law_word" s_word) (T:Bn mg):Callee P w K mg base "_law_word" 1 ["_law_cell","_law_base"] sp_word:=by
 refine D.callee zf0 (fun _ _ _ _ _ _=>ln2 fun _ _=>rfl) (fun vs H Q E h => ?_) (fun f cdv A outer s H vs Q E hr h => ?_)
 ·obtain ⟨c,b,rfl,_⟩:=h
  rfl
 ·obtain ⟨c,b,rfl,hb,q⟩:=h
  have S:=zf0
  have b0:0 < b:=by omega
  have b1:b<=26:=by omega
  have m0:=Int.emod_nonneg c (show (6:Int)≠0 by decide)
  have m1:=Int.emod_lt_of_pos c p6
  refine ⟨_,zad (zan (i:=2) S.nd rfl (Or.inl rfl) (zas))
  (zad (zan (i:=3) S.nd rfl (Or.inl rfl) (zax zcd (pv 0) (zab)))
  (zad (zaY PassesOwn.never rfl (zbo rfl T.n_range (zaa (zax zbp (zab) (zax zbl (pv 0) (zab))) zac)) (zam (i:=4) S.nd rfl (Or.inl rfl))
   (zad (zan (i:=2) S.nd rfl (Or.inl rfl) (zax op_add_str (pv 2) (zaC ix_str (zas) (zax zbl (pv 3) (pv 1)) (fun _ _=>rfl))))
   (zag (zan (i:=3) S.nd rfl (Or.inl rfl) (zax zcd (pv 3) (pv 1))))))
  (zag (zaj (pv 2))))),?_⟩
  refine ⟨_,rfl,_,_,rfl,rfl,⟨p6,by decide⟩,?_⟩
  refine ⟨_,rfl,_,_,rfl,rfl,p6,_,_,rfl,rfl,_,rfl,?_,?_,?_⟩
  ·show -(2 ^ 62)<=1 + c % 6
   omega
  ·show 1 + c % 6 < 2 ^ 62
   omega
  refine zbz (zaO 0 (1 + c % 6).toNat) (fun i σ H'=>H'=H/\∃ (x:Str) (r:Int) (x4:Option V),σ = [some (.int c),some (.int b),some (.str x),some (.int r),x4]/\x.length=i/\x.cps.toList.all small=true) ⟨rfl,Str.ofString "",_,_,rfl,by decide,by decide⟩ (fun _ _ _ _ _=>trivial) ?_ ?_
  ·rintro i x σ H2 hx ⟨rfl,y,r,x4,rfl,hl,ha⟩
   obtain ⟨hi,rfl⟩:=zbm hx
   obtain ⟨ch,hch,hs⟩:=abc_at (k:=r % b) (Int.emod_nonneg _ (by omega)) (by have:=Int.emod_lt_of_pos r b0; omega)
   refine ⟨_,rfl,_,rfl,_,rfl,_,_,rfl,rfl,b0,_,_,_,rfl,rfl,?_,hch,_,_,rfl,rfl,?_,?_⟩
   ·show abc.length<=sizeLine
    rw [zfb]; decide
   ·rw [zd9]
    exact big (by omega)
   refine ⟨_,rfl,_,rfl,_,_,rfl,rfl,⟨b0,by omega⟩,?_⟩
   refine ⟨rfl,_,_,_,rfl,by rw [len_app,hl,zd9],?_⟩
   rw [app_list,List.all_append,ha]
   show (true && [ch].all small)=true
   simp [hs]
  ·rintro σ H2 ⟨rfl,y,r,x4,rfl,hl,ha⟩
   rw [List.length_map,List.length_range] at hl
   exact ⟨_,rfl,q y (zgn (by omega) (by omega) ha)⟩
noncomputable def sp_spare (K:W.Frag):Sp:=fun vs H Q _=>∃ (x:Str) (u:Addr) (us:List Str),vs = [.str x,.ref u]/\isName x=true/\SqL K H u (us.map V.str)/\us.length<=25/\∀ y H',Same H H'->isName y=true->y ∉ us->Q (.str y) H'
noncomputable def notUsed (us:List Str) (v:V):Bool:=match v with
 | .str y => !decide (y∈us)
 | _=>false
theorem zfr:FnScope ["_law_word_here","_law_used"] ["_law_word_here","_law_used"] (defScope s_spare):=⟨rfl,rfl,rfl,by decide +kernel,rfl,by decide +kernel,by decide +kernel⟩
theorem ok_spare (D:DefAt K mg "_law_spare" s_spare) (T:Bn mg):Callee P w K mg base "_law_spare" 1 ["_law_word_here","_law_used"] (sp_spare K):=by
 refine D.callee zfr (fun _ _ _ _ _ _=>ln2 fun _ _=>rfl) (fun vs H Q E h => ?_) (fun f cdv A outer s H vs Q E hr h => ?_)
 ·obtain ⟨x,u,us,rfl,_⟩:=h
  rfl
 ·obtain ⟨x,u,us,rfl,hx,hS,hl,q⟩:=h
  have S:=zfr
  refine ⟨_,zad (zaM (zar zbY (pv 0) (pv 1) (by with_unfolding_all rfl))
   (zag (zaj (pv 0)))
   (zao))
  (zag (zaj (zaC zaI (za2 (own := ["_law_one"]) (caps := [(1,"_law_used")]) rfl ⟨rfl,rfl,rfl,rfl,⟨⟨rfl,rfl,.inl rfl⟩,trivial⟩⟩ (zg0 (zas)) (fun _ _ _ _ _ _=>zam (i:=0) (zaT (by decide +kernel)) rfl (Or.inl rfl)) (fun _ _ _ _ _ _=>zcH (zar (op_notIn_seq' K rfl) (pv 0) (pv 1) (by with_unfolding_all rfl))) (fun _ _ _ _ _ _=>pv 0)) (zab) (fun _ _=>rfl)))),?_⟩
  refine ⟨_,rfl,_,rfl,_,_,rfl,.inl hS,rfl,zeK us,_,rfl,?_⟩
  rw [if_pos rfl,ze2]
  refine ite2 (fun hc => ?_) (fun hc => ?_)
  ·have h0:x ∉ us:=by simpa using hc
   exact ⟨_,rfl,q x H (Same.refl H) hx h0⟩
  ·refine ⟨_,rfl,fun D hD => ?_⟩
   refine zcA (capv := [some (.ref u)]) (L:=abc.cps.toList.map sgn) (by rfl) (zeH abc) (by rw [List.length_map,zcE,zfb]; decide) hD ?_ (notUsed us) (fun v=>v) ?_ ?_ ?_
   ·exact fun _ _=>trivial
   ·intro v hv H' R s' h
    obtain ⟨c,hc,rfl⟩:=List.mem_map.mp hv
    refine ⟨_,rfl,_,rfl,_,_,rfl,.inl (s'.seq hS),rfl,zeK us,_,rfl,?_⟩
    rw [if_pos rfl]
    show R (!inV (V.str ⟨#[c]⟩) (us.map V.str)) H'
    rw [ze2]
    exact h H' (Same.refl _)
   ·intro v hv hp H' R s' h
    exact ⟨_,rfl,h H' (Same.refl _)⟩
   ·intro H' s' e
    obtain ⟨c,hc,hn⟩:=spare_some us hl
    have hm:sgn c∈((abc.cps.toList.map sgn).filter (notUsed us)).map fun v=>v:=by
     rw [List.map_id']
     exact List.mem_filter.mpr ⟨List.mem_map.mpr ⟨c,hc,rfl⟩,by show (!decide ((⟨#[c]⟩:Str)∈us))=true; simp [hn]⟩
    have hall:∀ v∈((abc.cps.toList.map sgn).filter (notUsed us)).map fun v=>v,∃ d,v=sgn d/\small d=true/\(⟨#[d]⟩:Str) ∉ us:=fun v hv=>by
     rw [List.map_id'] at hv
     obtain ⟨h1,h2⟩:=List.mem_filter.mp hv
     obtain ⟨d,hd,rfl⟩:=List.mem_map.mp h1
     have h2:(!decide ((⟨#[d]⟩:Str)∈us))=true:=h2
     exact ⟨d,rfl,abc_small hd,by simpa using h2⟩
    generalize (((abc.cps.toList.map sgn).filter (notUsed us)).map fun v=>v)=l at e hm hall
    cases l with
    | nil=>cases hm
    | cons v l =>
     obtain ⟨d,rfl,hs,hd⟩:=hall v List.mem_cons_self
     exact ⟨_,_,_,_,rfl,rfl,SqL.of e,(show atI (sgn d :: l) ((0:Nat):Int)=some (sgn d) from zay rfl),q _ H' s' (name_one hs) hd⟩
noncomputable def Rows (H:Hp):List V->List (List Int)->Prop
 | [],[]=>True
 | v :: vs,r :: rs=>(∃ p,v = .ref p/\H p=some (.tup (r.map V.int)))/\Rows H vs rs
 | _,_=>False
theorem Rows.same {H H':Hp} (s:Same H H'):∀ {vs:List V} {rs:List (List Int)},Rows H vs rs->Rows H' vs rs
 | [],[],_=>trivial
 | _ :: _,_ :: _,⟨⟨p,e,h⟩,r⟩=>⟨⟨p,e,s _ _ h⟩,Rows.same s r⟩
 | [],_ :: _,h=>h.elim
 | _ :: _,[],h=>h.elim
theorem Rows.snoc {H:Hp} {p:Addr} {r:List Int} (h:H p=some (.tup (r.map V.int))):∀ {vs:List V} {rs:List (List Int)},Rows H vs rs->Rows H (vs ++ [.ref p]) (rs ++ [r])
 | [],[],_=>⟨⟨p,rfl,h⟩,trivial⟩
 | _ :: _,_ :: _,⟨a,b⟩=>⟨a,Rows.snoc h b⟩
 | [],_ :: _,x=>x.elim
 | _ :: _,[],x=>x.elim
theorem Rows.get {H:Hp}:∀ {vs:List V} {rs:List (List Int)} {i:Nat} {r:List Int},Rows H vs rs->rs[i]?=some r->∃ p,vs[i]?=some (.ref p)/\H p=some (.tup (r.map V.int))
 | [],[],_,_,_,e=>by simp at e
 | _ :: _,_ :: _,0,_,⟨⟨p,e,h⟩,_⟩,z=>by
  simp at z
  subst z
  exact ⟨p,by rw [e]; rfl,h⟩
 | _ :: _,_ :: _,i + 1,_,⟨_,b⟩,z=>Rows.get (i:=i) b (by simpa using z)
 | [],_ :: _,_,_,x,_=>x.elim
 | _ :: _,[],_,_,x,_=>x.elim
structure Mr (H0 H:Hp) (vs:List V) (rs:List (List Int)):Prop where
 same:Same H0 H
 rows:Rows H vs rs
theorem Mr.add {H0 H:Hp} {vs:List V} {rs:List (List Int)} (m:Mr H0 H vs rs) (r:List Int) {p:Addr} (n:H p=none):Mr H0 (upd H p (.tup (r.map V.int))) (vs ++ [.ref p]) (rs ++ [r]) :=
 ⟨m.same.put (m.same.free n),Rows.snoc zaf (m.rows.same (Same.new n))⟩
theorem Mr.lstE {H0 H:Hp} {vs:List V} {rs:List (List Int)} (m:Mr H0 H vs rs) {o:HO} {p:Addr} (n:H p=none):Mr H0 (upd H p o) vs rs/\upd H p o p=some o:=⟨⟨m.same.put (m.same.free n),m.rows.same (Same.new n)⟩,zaf⟩
theorem Mr.lst {H0 H:Hp} {vs:List V} {rs:List (List Int)} (m:Mr H0 H vs rs) {o:HO} {p:Addr} (n:H p=none):Mr H0 (upd H p o) vs rs:=⟨m.same.put (m.same.free n),m.rows.same (Same.new n)⟩
noncomputable def menuRows:List (List Int) := [[45],[131,133],[193,65],[71,161,99],[77,131,133],[13,49],[153,111,131],[197,131,173,53],[83,125,137,173,243],[185,193,215,87,243],[5],[175,209,67,129,21,229,49,83],[203,243,129,167,153,223,207,243],[197,147,131],[197,131,177],[31,255],[3,3],[119,225,131,109]]
noncomputable def MenuRow (xs:List Int):Prop:=(1<=xs.length/\xs.length<=8)/\∀ x∈xs,x % 2=1/\0<=x/\x < 256
theorem menu_ok {i:Nat} {r:List Int} (h:menuRows[i]?=some r):MenuRow r:=by
 have all:∀ r∈menuRows,(1<=r.length/\r.length<=8)/\∀ x∈r,x % 2=1/\0<=x/\x < 256:=by decide
 exact all r (List.mem_of_getElem? h)
noncomputable def sp_menu:Sp:=fun vs H Q _=>∃ (k:Int),vs = [.int k]/\∀ p xs H',Same H H'->H' p=some (.tup (xs.map V.int))->MenuRow xs->Q (.ref p) H'
theorem zf2:FnScope ["_law_k","_law_rows"] ["_law_k"] (defScope s_menu):=⟨rfl,rfl,rfl,by decide +kernel,rfl,by decide +kernel,by decide +kernel⟩
theorem ok_menu (D:DefAt K mg "_law_menu" s_menu) (T:Bn mg):Callee P w K mg base "_law_menu" 1 ["_law_k"] sp_menu:=by
 refine D.calleeQ zf2 (fun _ _ _ _ _ _=>ln1 fun _=>rfl) (fun vs H Q E h => ?_) (fun f cdv A outer s H vs Q E hr h => ?_)
 ·obtain ⟨k,rfl,_⟩:=h
  rfl
 ·obtain ⟨k,rfl,q⟩:=h
  have S:=zf2
  refine ⟨_,zaB (za7 (i:=1) S.nd rfl (Or.inl rfl) (zbj (zae (za8 (zae (qe (zab)) (zaA))) (zae (za8 (zae (qe (zab)) (zae (qe (zab)) (zaA)))) (zae (za8 (zae (qe (zab)) (zae (qe (zab)) (zaA)))) (zae (za8 (zae (qe (zab)) (zae (qe (zab)) (zae (qe (zab)) (zaA))))) (zae (za8 (zae (qe (zab)) (zae (qe (zab)) (zae (qe (zab)) (zaA))))) (zae (za8 (zae (qe (zab)) (zae (qe (zab)) (zaA)))) (zae (za8 (zae (qe (zab)) (zae (qe (zab)) (zae (qe (zab)) (zaA))))) (zaA))))))))))
  (zaB (za7 (i:=1) S.nd rfl (Or.inl rfl) (zdl zbS (qe (pv 1)) (zbj (zae (za8 (zae (qe (zab)) (zae (qe (zab)) (zae (qe (zab)) (zae (qe (zab)) (zaA)))))) (zae (za8 (zae (qe (zab)) (zae (qe (zab)) (zae (qe (zab)) (zae (qe (zab)) (zae (qe (zab)) (zaA))))))) (zae (za8 (zae (qe (zab)) (zae (qe (zab)) (zae (qe (zab)) (zae (qe (zab)) (zae (qe (zab)) (zaA))))))) (zae (za8 (zae (qe (zab)) (zaA))) (zaA))))))))
  (zaB (za7 (i:=1) S.nd rfl (Or.inl rfl) (zdl zbS (qe (pv 1)) (zbj (zae (za8 (zae (qe (zab)) (zae (qe (zab)) (zae (qe (zab)) (zae (qe (zab)) (zae (qe (zab)) (zae (qe (zab)) (zae (qe (zab)) (zae (qe (zab)) (zaA)))))))))) (zae (za8 (zae (qe (zab)) (zae (qe (zab)) (zae (qe (zab)) (zae (qe (zab)) (zae (qe (zab)) (zae (qe (zab)) (zae (qe (zab)) (zae (qe (zab)) (zaA)))))))))) (zaA))))))
  (zaB (za7 (i:=1) S.nd rfl (Or.inl rfl) (zdl zbS (qe (pv 1)) (zbj (zae (za8 (zae (qe (zab)) (zae (qe (zab)) (zae (qe (zab)) (zaA))))) (zae (za8 (zae (qe (zab)) (zae (qe (zab)) (zae (qe (zab)) (zaA))))) (zae (za8 (zae (qe (zab)) (zae (qe (zab)) (zaA)))) (zae (za8 (zae (qe (zab)) (zae (qe (zab)) (zaA)))) (zae (za8 (zae (qe (zab)) (zae (qe (zab)) (zae (qe (zab)) (zae (qe (zab)) (zaA)))))) (zaA)))))))))
  (zeY (zf9 (qe (zaC zaI (pv 1) (zax zbl (pv 0) (zai zau rfl T.n_len PySem.boot_len (zaa (pv 1) zac))) (fun _ _=>rfl)))))))),?_⟩
  have M:Mr H H [] []:=⟨Same.refl H,trivial⟩
  refine ⟨bigr rfl,fun a1 na => ?_⟩
  replace M:=M.add [45] na
  clear na
  refine ⟨bigr rfl,fun a2 na => ?_⟩
  replace M:=M.add [131,133] na
  clear na
  refine ⟨bigr rfl,fun a3 na => ?_⟩
  replace M:=M.add [193,65] na
  clear na
  refine ⟨bigr rfl,fun a4 na => ?_⟩
  replace M:=M.add [71,161,99] na
  clear na
  refine ⟨bigr rfl,fun a5 na => ?_⟩
  replace M:=M.add [77,131,133] na
  clear na
  refine ⟨bigr rfl,fun a6 na => ?_⟩
  replace M:=M.add [13,49] na
  clear na
  refine ⟨bigr rfl,fun a7 na => ?_⟩
  replace M:=M.add [153,111,131] na
  clear na
  refine ⟨bigr rfl,fun b0 nb => ?_⟩
  obtain ⟨M,e⟩:=M.lstE (o := .lst [V.ref a1,V.ref a2,V.ref a3,V.ref a4,V.ref a5,V.ref a6,V.ref a7]) nb
  clear nb
  refine ⟨_,rfl,?_⟩
  refine ⟨bigr rfl,fun a8 na => ?_⟩
  replace M:=M.add [197,131,173,53] na
  replace e:=zbh (o := .tup (([197,131,173,53]:List Int).map V.int)) e na
  clear na
  refine ⟨bigr rfl,fun a9 na => ?_⟩
  replace M:=M.add [83,125,137,173,243] na
  replace e:=zbh (o := .tup (([83,125,137,173,243]:List Int).map V.int)) e na
  clear na
  refine ⟨bigr rfl,fun a10 na => ?_⟩
  replace M:=M.add [185,193,215,87,243] na
  replace e:=zbh (o := .tup (([185,193,215,87,243]:List Int).map V.int)) e na
  clear na
  refine ⟨bigr rfl,fun a11 na => ?_⟩
  replace M:=M.add [5] na
  replace e:=zbh (o := .tup (([5]:List Int).map V.int)) e na
  clear na
  refine ⟨bigr rfl,fun b1 nb => ?_⟩
  obtain ⟨M,e2⟩:=M.lstE (o := .lst [V.ref a8,V.ref a9,V.ref a10,V.ref a11]) nb
  replace e:=zbh (o := .lst [V.ref a8,V.ref a9,V.ref a10,V.ref a11]) e nb
  clear nb
  refine ⟨_,_,_,_,rfl,rfl,e,e2,bigr rfl,fun c1 nc => ?_⟩
  obtain ⟨M,e⟩:=M.lstE (o := .lst [V.ref a1,V.ref a2,V.ref a3,V.ref a4,V.ref a5,V.ref a6,V.ref a7,V.ref a8,V.ref a9,V.ref a10,V.ref a11]) nc
  clear nc e2
  refine ⟨_,rfl,?_⟩
  refine ⟨bigr rfl,fun a12 na => ?_⟩
  replace M:=M.add [175,209,67,129,21,229,49,83] na
  replace e:=zbh (o := .tup (([175,209,67,129,21,229,49,83]:List Int).map V.int)) e na
  clear na
  refine ⟨bigr rfl,fun a13 na => ?_⟩
  replace M:=M.add [203,243,129,167,153,223,207,243] na
  replace e:=zbh (o := .tup (([203,243,129,167,153,223,207,243]:List Int).map V.int)) e na
  clear na
  refine ⟨bigr rfl,fun b2 nb => ?_⟩
  obtain ⟨M,e2⟩:=M.lstE (o := .lst [V.ref a12,V.ref a13]) nb
  replace e:=zbh (o := .lst [V.ref a12,V.ref a13]) e nb
  clear nb
  refine ⟨_,_,_,_,rfl,rfl,e,e2,bigr rfl,fun c2 nc => ?_⟩
  obtain ⟨M,e⟩:=M.lstE (o := .lst [V.ref a1,V.ref a2,V.ref a3,V.ref a4,V.ref a5,V.ref a6,V.ref a7,V.ref a8,V.ref a9,V.ref a10,V.ref a11,V.ref a12,V.ref a13]) nc
  clear nc e2
  refine ⟨_,rfl,?_⟩
  refine ⟨bigr rfl,fun a14 na => ?_⟩
  replace M:=M.add [197,147,131] na
  replace e:=zbh (o := .tup (([197,147,131]:List Int).map V.int)) e na
  clear na
  refine ⟨bigr rfl,fun a15 na => ?_⟩
  replace M:=M.add [197,131,177] na
  replace e:=zbh (o := .tup (([197,131,177]:List Int).map V.int)) e na
  clear na
  refine ⟨bigr rfl,fun a16 na => ?_⟩
  replace M:=M.add [31,255] na
  replace e:=zbh (o := .tup (([31,255]:List Int).map V.int)) e na
  clear na
  refine ⟨bigr rfl,fun a17 na => ?_⟩
  replace M:=M.add [3,3] na
  replace e:=zbh (o := .tup (([3,3]:List Int).map V.int)) e na
  clear na
  refine ⟨bigr rfl,fun a18 na => ?_⟩
  replace M:=M.add [119,225,131,109] na
  replace e:=zbh (o := .tup (([119,225,131,109]:List Int).map V.int)) e na
  clear na
  refine ⟨bigr rfl,fun b3 nb => ?_⟩
  obtain ⟨M,e2⟩:=M.lstE (o := .lst [V.ref a14,V.ref a15,V.ref a16,V.ref a17,V.ref a18]) nb
  replace e:=zbh (o := .lst [V.ref a14,V.ref a15,V.ref a16,V.ref a17,V.ref a18]) e nb
  clear nb
  refine ⟨_,_,_,_,rfl,rfl,e,e2,bigr rfl,fun c3 nc => ?_⟩
  obtain ⟨M,e⟩:=M.lstE (o := .lst [V.ref a1,V.ref a2,V.ref a3,V.ref a4,V.ref a5,V.ref a6,V.ref a7,V.ref a8,V.ref a9,V.ref a10,V.ref a11,V.ref a12,V.ref a13,V.ref a14,V.ref a15,V.ref a16,V.ref a17,V.ref a18]) nc
  clear nc e2
  have p18:(0:Int) < 18:=by decide
  have k0:=Int.emod_nonneg k (show (18:Int)≠0 by decide)
  have k1:=Int.emod_lt_of_pos k p18
  have hi:(k % 18).toNat < menuRows.length:=by
   show (k % 18).toNat < 18
   omega
  obtain ⟨p,hp,ht⟩:=Rows.get (rs:=menuRows) M.rows (List.getElem?_eq_getElem hi)
  have ek:(((k % 18).toNat:Nat):Int)=k % 18:=by omega
  refine ⟨_,rfl,_,rfl,_,rfl,_,_,rfl,.inl (SqL.of e),_,_,rfl,rfl,p18,_,_,_,_,rfl,rfl,SqL.of e,?_,q p _ _ M.same ht (menu_ok (List.getElem?_eq_getElem hi))⟩
  show atI _ (k % 18)=_
  rw [<- ek]
  exact zay hp
theorem p3:(0:Int) < 3:=by decide
theorem p14:(0:Int) < 14:=by decide
theorem p42:(0:Int) < 42:=by decide
theorem zho:(0:Int) < 128:=by decide
noncomputable def manyL:List Int := [2,3,1,2,4,3,1,5,2,0,8,7,6,1]
theorem manyL_at {k:Int} (h0:0<=k) (h1:k < 14):∃ m:Int,atI (manyL.map V.int) k=some (V.int m)/\0<=m/\m<=8:=by
 refine ⟨_,zhk h0 (by show k < 14; exact h1),?_⟩
 have all:∀ x∈manyL,0<=x/\x<=8:=by decide
 refine all _ ?_
 have hk:k.toNat < manyL.length:=by show k.toNat < 14; omega
 rw [List.getD_eq_getElem?_getD,List.getElem?_eq_getElem hk]
 exact List.getElem_mem hk
theorem base_at {k:Int} (h0:0<=k) (h1:k < 2):∃ b:Int,atI [V.int 26,V.int 2] k=some (V.int b)/\(b=26\/b=2):=by
 rcases (by omega:k=0\/k=1) with h | h <;> subst h
 ·exact ⟨26,rfl,.inl rfl⟩
 ·exact ⟨2,rfl,.inr rfl⟩
noncomputable def bitOf (b:Int) (v:V):Bool:=match v with
 | .int t=>decide (Builtin.bitAnd (b / 2 ^ t.toNat) 1=1)
 | _=>false
noncomputable def sp_combs (K:W.Frag):Sp:=fun vs H Q _=>∃ (a:Addr) (ns:List Int),vs = [.ref a]/\SqL K H a (ns.map V.int)/\∀ p ks vs H',Same H H'->H p=none->H' p=some (.lst vs)->Drawn (fun _=>True) H' vs ks->ks.length<=8->Q (.ref p) H'
theorem zfu:FnScope ["_law_script","_law_head","_law_menu_here","_law_many","_law_found","_law_used","_law_k","_law_cell","_law_bits","_law_word_here"] ["_law_script"] (defScope s_combs):=⟨rfl,rfl,rfl,by decide +kernel,rfl,by decide +kernel,by decide +kernel⟩
theorem ok_combs (D:DefAt K mg "_law_combs" s_combs) (T:Bn mg) (C_at:Callee P w K mg base "_law_at" 1 ["_law_script","_law_k"] (sp_at K)) (C_mixed:Callee P w K mg base "_law_mixed" 1 ["_law_cell","_law_k"] sp_mixed) (C_word:Callee P w K mg base "_law_word" 1 ["_law_cell","_law_base"] sp_word)
  (C_spare:Callee P w K mg base "_law_spare" 1 ["_law_word_here","_law_used"] (sp_spare K)) (C_menu:Callee P w K mg base "_law_menu" 1 ["_law_k"] sp_menu):Callee P w K mg base "_law_combs" 2 ["_law_script"] (sp_combs K):=by
 refine D.calleeQ zfu (fun _ _ _ _ _ _=>ln1 fun _=>rfl) (fun vs H Q E h => ?_) (fun f cdv A outer s H vs Q E hr h => ?_)
 ·obtain ⟨a,ns,rfl,_⟩:=h
  rfl
 ·obtain ⟨a,ns,rfl,hS,q⟩:=h
  have S:=zfu
  refine ⟨_,zaB (za7 (i:=1) S.nd rfl (Or.inl rfl) (qe (zaK C_at (hr.mono (by decide)) rfl (zaa (pv 0) (zaa (zab) zac)))))
  (zaB (za7 (i:=2) S.nd rfl (Or.inl rfl) (qe (zaK C_menu (hr.mono (by decide)) rfl (zaa (zaK C_at (hr.mono (by decide)) rfl (zaa (pv 0) (zaa (zab) zac))) zac))))
  (zaB (za7 (i:=3) S.nd rfl (Or.inl rfl) (qe_ix zaI (zbj (zae (qe (zab)) (zae (qe (zab)) (zae (qe (zab)) (zae (qe (zab)) (zae (qe (zab)) (zae (qe (zab)) (zae (qe (zab)) (zae (qe (zab)) (zae (qe (zab)) (zae (qe (zab)) (zae (qe (zab)) (zae (qe (zab)) (zae (qe (zab)) (zae (qe (zab)) (zaA)))))))))))))))) (qe (zax zbl (zax zcd (pv 1) (zab)) (zab))) (fun _ _=>rfl)))
  (qss_cut (qs (zaM (zar zb6 (zax zbl (pv 1) (zab)) (zab) (zaw _))
   (zag (zan (i:=3) S.nd rfl (Or.inl rfl) (zai zau rfl T.n_len PySem.boot_len (zaa (pv 2) zac))))
   (zao)))
  (zaB (za7 (i:=4) S.nd rfl (Or.inl rfl) (zbj (zaA)))
  (zaB (za7 (i:=5) S.nd rfl (Or.inl rfl) (zbj (zaA)))
  (zaB (qs (zaY PassesOwn.never rfl (zbo rfl T.n_range (zaa (pv 3) zac)) (zam (i:=6) S.nd rfl (Or.inl rfl))
   (zad (zan (i:=7) S.nd rfl (Or.inl rfl) (zaK C_at (hr.mono (by decide)) rfl (zaa (pv 0) (zaa (zax zbp (zab) (pv 6)) zac))))
   (zcb (zaM (zar zhp (zax zbl (pv 1) (zab)) (zab) (zaw _))
    (zag (zan (i:=7) S.nd rfl (Or.inl rfl) (zaK C_mixed (hr.mono (by decide)) rfl (zaa (pv 7) (zaa (pv 6) zac)))))
    (zao))
   (zad (zan (i:=8) S.nd rfl (Or.inr rfl) (zax zbp (zax zew (zax zbl (pv 7) (zab)) (zab)) (zab)))
   (zcb (zaM (zar zb6 (zax zbl (pv 1) (zab)) (zab) (zaw _))
    (zag (zan (i:=8) S.nd rfl (Or.inr rfl) (zaC za5 (pv 2) (pv 6) (fun _ _=>rfl))))
    (zao))
   (zad (zan (i:=9) S.nd rfl (Or.inl rfl) (zaK C_spare (hr.mono (by decide)) rfl (zaa (zaK C_word (hr.mono (by decide)) rfl (zaa (zax zcd (pv 7) (zab)) (zaa (zaC zaI (zaU (zaa (zab) (zaa (zab) zac))) (zax zbl (zax zcd (pv 1) (zab)) (zab)) (fun _ _=>rfl)) zac))) (zaa (pv 5) zac))))
   (zad (zaS (zdm PySem.F.plainAttrs_list PySem.F.slot_list_append PySem.F.type_list_append zaW (pv 5) (zaa (pv 9) zac)))
   (zag (zaS (zdm PySem.F.plainAttrs_list PySem.F.slot_list_append PySem.F.type_list_append zaW (pv 4) (zaa (zaU (zaa (pv 9) (zaa (za2 (own := ["_law_t"]) (caps := [(8,"_law_bits")]) rfl ⟨rfl,rfl,rfl,rfl,⟨⟨rfl,rfl,.inl rfl⟩,trivial⟩⟩ (zbo rfl T.n_range (zaa (zab) zac)) (fun _ _ _ _ _ _=>zam (i:=0) (zaT (by decide +kernel)) rfl (Or.inl rfl)) (fun _ _ _ _ _ _=>zcH (zar zb6 (zax zg4 (zax op_shr (pv 1) (pv 0)) (zab)) (zab) (zaw _))) (fun _ _ _ _ _ _=>pv 0)) zac))) zac))))))))))))
  (zeY (zf9 (qe (pv 4)))))))))),?_⟩
  refine ⟨_,rfl,a,ns,0,rfl,hS,by decide,?_⟩
  generalize ns.getD (Int.toNat 0) 0=head
  refine ⟨_,rfl,a,ns,1,rfl,hS,by decide,_,rfl,fun pm xs H1 s1 em hm => ?_⟩
  obtain ⟨m,hma,hm0,hm8⟩:=manyL_at (k:=head / 3 % 14) (Int.emod_nonneg _ (by decide)) (Int.emod_lt_of_pos _ p14)
  refine ⟨bigr rfl,fun b nb=>⟨_,rfl,_,_,rfl,rfl,⟨p3,by decide⟩,_,_,rfl,rfl,p14,_,_,_,_,rfl,rfl,SqL.of zaf,hma,?_⟩⟩
  have s2:Same H (upd H1 b (.lst (manyL.map V.int))):=s1.put (s1.free nb)
  have em2:upd H1 b (.lst (manyL.map V.int)) pm=some (.tup (xs.map V.int)):=by rw [zah (zaq em nb)]; exact em
  refine ⟨fun σ H'=>Same H H'/\H' pm=some (.tup (xs.map V.int))/\∃ m:Int,σ = [some (.ref a),some (.int head),some (.ref pm),some (.int m),none,none,none,none,none,none]/\0<=m/\m<=8/\(head % 3=2->m=xs.length),?_,?_⟩
  ·refine ⟨_,rfl,_,_,rfl,rfl,p3,rfl,_,rfl,?_⟩
   refine ite2 (fun hc => ?_) (fun hc => ?_)
   ·refine ⟨_,rfl,_,_,rfl,.inr (SqT.of em2),?_⟩
    rw [List.length_map]
    exact ⟨s2,em2,_,rfl,by omega,by have:=hm.1.2; omega,fun _=>rfl⟩
   ·have hc:¬ head % 3=2:=by simpa using hc
    exact ⟨s2,em2,_,rfl,hm0,hm8,fun z=>absurd z hc⟩
  clear s2 em2 hma hm0 hm8 nb b m s1 em H1
  rintro σ H1 ⟨s1,em,m,rfl,hm0,hm8,hm2⟩
  refine ⟨bigr rfl,fun pf nf => ?_⟩
  refine ⟨bigr rfl,fun pu nu => ?_⟩
  have nfu:pf≠pu:=fun z=>by rw [<- z,zaf] at nu; cases nu
  have fH:H pf=none:=s1.free nf
  have s2:=(s1.put (o := .lst []) fH)
  have uH:H pu=none:=s2.free nu
  have s3:=s2.put (o := .lst []) uH
  have em3:upd (upd H1 pf (.lst [])) pu (.lst []) pm=some (.tup (xs.map V.int)):=by
   rw [zah (zaq (by rw [zah (zaq em nf)]; exact em) nu),zah (zaq em nf)]; exact em
  refine ⟨_,rfl,_,rfl,by omega,by omega,?_⟩
  refine zbz (zaO 0 m.toNat) (fun i σ H'=>Same H H'/\H' pm=some (.tup (xs.map V.int))/\∃ (vs:List V) (ks:List (Str×List Int)) (x6 x7 x8 x9:Option V),σ = [some (.ref a),some (.int head),some (.ref pm),some (.int m),some (.ref pf),some (.ref pu),x6,x7,x8,x9] /\
   H' pf=some (.lst vs)/\H' pu=some (.lst ((ks.map (·.1)).map V.str))/\Drawn (fun x=>x≠pf/\x≠pu) H' vs ks/\ks.length=i) ⟨s3,em3,[],[],_,_,_,_,rfl,by rw [zah nfu,zaf],by rw [zaf]; rfl,⟨trivial,List.nodup_nil,by simp⟩,rfl⟩ (fun _ _ _ _ _=>trivial) ?_ ?_
  ·rintro i x σ H2 hx ⟨s2,em2,vs,ks,x6,x7,x8,x9,rfl,ef,eu,dr,hl⟩
   obtain ⟨hi,rfl⟩:=zbm hx
   have hi8:i < 8:=by omega
   have hS2:=s2.seq hS
   refine ⟨_,rfl,_,rfl,_,_,rfl,rfl,a,ns,_,rfl,hS2,?_,?_⟩
   ·show (0:Int)<=1 + (0 + ((i:Nat):Int))
    omega
   generalize ns.getD (1 + (0 + ((i:Nat):Int))).toNat 0=cell0
   refine ⟨fun σ H'=>H'=H2/\∃ (c:Int),σ = [some (.ref a),some (.int head),some (.ref pm),some (.int m),some (.ref pf),some (.ref pu),some (.int (0 + ((i:Nat):Int))),some (.int c),x8,x9],?_,?_⟩
   ·refine ⟨_,rfl,_,_,rfl,rfl,p3,_,_,rfl,rfl,_,rfl,?_⟩
    refine ite2 (fun _ => ?_) (fun _ => ?_)
    ·exact ⟨_,rfl,_,rfl,_,_,rfl,rfl,_,rfl⟩
    ·exact ⟨rfl,_,rfl⟩
   rintro σ H3 ⟨rfl,c,rfl⟩
   have c0:=Int.emod_nonneg c (show (128:Int)≠0 by decide)
   have c1:=Int.emod_lt_of_pos c zho
   refine ⟨_,rfl,_,_,rfl,rfl,zho,_,_,rfl,rfl,.inr ⟨by decide,by decide⟩,_,_,rfl,rfl,?_⟩
   refine ⟨fun σ H'=>H'=H3/\∃ (bt:Int),σ = [some (.ref a),some (.int head),some (.ref pm),some (.int m),some (.ref pf),some (.ref pu),some (.int (0 + ((i:Nat):Int))),some (.int c),some (.int bt),x9]/\bt % 2=1/\0<=bt,?_,?_⟩
   ·refine ⟨_,rfl,_,_,rfl,rfl,p3,rfl,_,rfl,?_⟩
    refine ite2 (fun hc => ?_) (fun hc => ?_)
    ·have hc:head % 3=2:=by simpa using hc
     have hix:i < xs.length:=by have:=hm2 hc; omega
     have hat:atI (xs.map V.int) (0 + ((i:Nat):Int))=some (V.int xs[i]):=by
      rw [Int.zero_add]
      refine zay ?_
      rw [List.getElem?_map,List.getElem?_eq_getElem hix]
      rfl
     have:=hm.2 xs[i] (List.getElem_mem hix)
     exact ⟨_,rfl,_,rfl,_,_,_,_,rfl,rfl,SqT.of em2,hat,rfl,_,rfl,this.1,this.2.1⟩
    ·exact ⟨rfl,_,rfl,by omega,by omega⟩
   rintro σ H4 ⟨rfl,bt,rfl,hb1,hb0⟩
   obtain ⟨bs,hbs,hb2⟩:=base_at (k:=head / 42 % 2) (Int.emod_nonneg _ (by decide)) (Int.emod_lt_of_pos _ p2)
   refine ⟨_,rfl,_,_,rfl,rfl,⟨zho,by decide⟩,bigr rfl,fun b nb=>⟨_,rfl,_,_,rfl,rfl,⟨p42,by decide⟩,_,_,rfl,rfl,p2,_,_,_,_,rfl,rfl,SqL.of zaf,hbs,_,_,rfl,hb2,fun y hy => ?_⟩⟩
   have s4:=s2.put (o := .lst [V.int 26,V.int 2]) (s2.free nb)
   have t4:Same H4 (upd H4 b (.lst [V.int 26,V.int 2])):=Same.new nb
   have eu4:=t4 _ _ eu
   refine ⟨_,rfl,y,pu,ks.map (·.1),rfl,hy,SqL.of eu4,by rw [List.length_map]; omega,fun z H5 s5 hz hzn => ?_⟩
   have s5H:=s4.trans s5
   have t5:=t4.trans s5
   have eu5:=t5 _ _ eu
   have ef5:=t5 _ _ ef
   have em5:=t5 _ _ em2
   have dr5:=dr.same t5
   refine ⟨_,rfl,.inl ⟨rfl,_,SqL.of eu5⟩,_,rfl,_,_,_,rfl,rfl,eu5,?_,?_⟩
   ·rw [List.length_map,List.length_map]
    exact Nat.lt_of_lt_of_le (by omega:ks.length < 1000) zby
   have s6:=s5H.put (o := .lst ((ks.map (·.1)).map V.str ++ [V.str z])) uH
   have dr6:Drawn (fun x=>x≠pf/\x≠pu) (upd H5 pu (.lst ((ks.map (·.1)).map V.str ++ [V.str z]))) vs ks:=dr5.upd fun z=>z.2 rfl
   have em6:upd H5 pu (.lst ((ks.map (·.1)).map V.str ++ [V.str z])) pm=some (.tup (xs.map V.int)):=by
    rw [zah (fun w=>by rw [w,eu5] at em5; cases em5)]; exact em5
   have ef6:upd H5 pu (.lst ((ks.map (·.1)).map V.str ++ [V.str z])) pf=some (.lst vs):=by rw [zah nfu]; exact ef5
   have eu6:upd H5 pu (.lst ((ks.map (·.1)).map V.str ++ [V.str z])) pu=some (.lst ((ks.map (·.1)).map V.str ++ [V.str z])):=zaf
   generalize upd H5 pu (.lst ((ks.map (·.1)).map V.str ++ [V.str z]))=H6 at s6 dr6 em6 ef6 eu6
   refine ⟨_,rfl,.inl ⟨rfl,_,SqL.of ef6⟩,_,rfl,_,rfl,by decide,by decide,fun Dc hD => ?_⟩
   refine zcA (capv := [some (.int bt)]) (by rfl) (zaO 0 (8:Int).toNat) (bigr rfl) hD ?_ (bitOf bt) (fun v=>v) ?_ ?_ ?_
   ·exact fun _ _=>trivial
   ·intro v hv H' R s' h
    obtain ⟨t,ht,rfl⟩:=List.mem_map.mp hv
    refine ⟨_,rfl,_,rfl,_,_,rfl,rfl,?_,_,_,rfl,rfl,rfl,_,rfl,?_⟩
    ·show (0:Int)<=0 + ((t:Nat):Int)
     omega
    rw [zhe]
    exact h H' (Same.refl _)
   ·intro v hv hp H' R s' h
    exact ⟨_,rfl,h H' (Same.refl _)⟩
   intro H7 s7 e7
   have ets:(((((List.range (8:Int).toNat).map fun i=>V.int (0 + ((i:Nat):Int))).filter (bitOf bt)).map fun v=>v))=(((List.range 8).filter fun i=>bitOf bt (.int (0 + ((i:Nat):Int)))).map fun i=>((i:Nat):Int)).map V.int:=by
    rw [List.map_id',List.filter_map,List.map_map]
    show List.map _ (List.filter _ (List.range 8))=_
    congr 1
    funext i
    show V.int (0 + ((i:Nat):Int))=V.int ((i:Nat):Int)
    rw [Int.zero_add]
   have gt:GT (((List.range 8).filter fun i=>bitOf bt (.int (0 + ((i:Nat):Int)))).map fun i=>((i:Nat):Int)):=by
    refine ⟨_,rfl,?_⟩
    show decide (Builtin.bitAnd (bt / 2 ^ (0 + ((0:Nat):Int)).toNat) 1=1)=true
    rw [bitAnd_m1]
    apply decide_eq_true
    show bt / 1 % 2=1
    rw [Int.ediv_one]
    exact hb1
   rw [ets] at e7
   generalize (((List.range 8).filter fun i=>bitOf bt (.int (0 + ((i:Nat):Int)))).map fun i=>((i:Nat):Int))=ts at e7 gt
   refine ⟨bigr rfl,fun q' nq => ?_⟩
   have t7:Same H6 H7:=s7
   have n7:∀ {x o},H6 x=some o->x≠Dc:=fun e z=>by rw [z,hD] at e; cases e
   have n8:∀ {x o},H7 x=some o->x≠q':=fun e z=>by rw [z,nq] at e; cases e
   have ef8:upd H7 q' (.lst [V.str z,V.ref Dc]) pf=some (.lst vs):=by rw [zah (n8 (t7 _ _ ef6))]; exact t7 _ _ ef6
   refine ⟨_,_,_,rfl,rfl,ef8,?_,?_⟩
   ·rw [dr6.rows.length]
    exact Nat.lt_of_lt_of_le (by omega:ks.length < 1000) zby
   have s8:=((s6.trans s7).put (o := .lst [V.str z,V.ref Dc]) ((s6.trans s7).free nq)).put (o := .lst (vs ++ [V.ref q'])) fH
   have fq:q'≠pf:=(n8 (t7 _ _ ef6)).symm
   have uq:q'≠pu:=(n8 (t7 _ _ eu6)).symm
   refine ⟨s8,?_,vs ++ [.ref q'],ks ++ [(z,ts)],_,_,_,_,rfl,zaf,?_,?_,by rw [List.length_append,hl]; rfl⟩
   ·have fm:pm≠pf:=fun w=>by rw [w,ef6] at em6; cases em6
    rw [zah fm,zah (n8 (t7 _ _ em6))]
    exact t7 _ _ em6
   ·rw [zah nfu.symm,zah (n8 (t7 _ _ eu6)),t7 _ _ eu6,List.map_append,List.map_append]
    rfl
   ·refine Drawn.snoc (q:=q') (t:=Dc) (((dr6.same t7).same (Same.new nq)).upd fun w=>w.1 rfl) ?_ ?_ ⟨fq,uq⟩ ⟨(n7 ef6).symm,(n7 eu6).symm⟩ hzn ⟨hz,gt⟩
    ·rw [zah fq,zaf]
    ·rw [zah (n7 ef6).symm,zah (n8 e7)]
     exact e7
  ·rintro σ H2 ⟨s2,em2,vs,ks,x6,x7,x8,x9,rfl,ef,eu,dr,hl⟩
   rw [List.length_map,List.length_range] at hl
   exact ⟨_,rfl,q pf ks vs H2 s2 fH ef dr.any (by omega)⟩
noncomputable def ChR (N:Addr->Prop) (H:Hp) (ws:List V) (L:List (List (Nat×Str))):Prop:=Paired (fun (l:List (Nat×Str)) (v:V)=>∃ q vs,v = .ref q/\N q/\H q=some (.lst vs)/\LyR H vs l) L ws
theorem ChR.mono {N N':Addr->Prop} {H H':Hp} {ws:List V} {L:List (List (Nat×Str))} (r:ChR N H ws L) (hn:∀ q,N q->H q≠none->N' q) (m:∀ q o,N q->H q=some o->H' q=some o) (mt:∀ q xs,H q=some (.tup xs)->H' q=some (.tup xs)):ChR N' H' ws L :=
 Paired.mapP r fun _ _ ⟨q,vs,a,b,c,d⟩=>⟨q,vs,a,hn q b (by rw [c]; exact nofun),m _ _ b c,d.mono mt⟩
theorem ChR.snoc {N:Addr->Prop} {H:Hp} {ws:List V} {L:List (List (Nat×Str))} {q:Addr} {vs:List V} {l:List (Nat×Str)} (r:ChR N H ws L) (hq:H q=some (.lst vs)) (hn:N q) (hl:LyR H vs l):ChR N H (ws ++ [.ref q]) (L ++ [l]):=Paired.snoc r ⟨q,vs,rfl,hn,hq,hl⟩
theorem zeg (C:Combs):∀ p,(chs C p).length=(C.length + 1) ^ p
 | 0=>rfl
 | p + 1=>by
  have:∀ L:List (List (Nat×Str)),(L.flatMap fun r=>r :: C.map fun c=>r ++ [(p,c.1)]).length=L.length * (C.length + 1):=by
   intro L
   induction L with
   | nil=>simp
   | cons a L ih=>rw [List.flatMap_cons,List.length_append,ih,List.length_cons,List.length_map,List.length_cons,Nat.add_one_mul]; omega
  show ((chs C p).flatMap fun r=>r :: C.map fun c=>r ++ [(p,c.1)]).length=_
  rw [this,zeg C p,Nat.pow_succ]
theorem ze7 {C:Combs}:∀ {p:Nat} {l:List (Nat×Str)},l∈chs C p->l.length<=p
 | 0,l,h=>by rw [List.mem_singleton.mp (show l ∈ [[]] from h)]; exact Nat.zero_le _
 | p + 1,l,h=>by
  obtain ⟨r,hr,h⟩:=List.mem_flatMap.mp h
  have:=ze7 hr
  rcases List.mem_cons.mp h with rfl | h
  ·omega
  ·obtain ⟨c,hc,rfl⟩:=List.mem_map.mp h
   rw [List.length_append,List.length_singleton]
   omega
noncomputable def sp_choices:Sp:=fun vs H Q _=>∃ (k:Addr) (n:Nat) (ws:List V) (ks:Combs),vs = [.ref k,.int (n:Nat)]/\H k=some (.lst ws)/\KindsL (fun _=>True) H ws ks/\(ks.length + 1) ^ n<=1100/\n<=100/\∀ r wr H',Same H H'->H' r=some (.lst wr)->ChR (fun z=>H z=none) H' wr (chs ks n)->Q (.ref r) H'
theorem zdB:FnScope ["_law_kinds","_law_many","_law_rows","_law_place","_law_more","_law_row","_law_word_here","_law_teeth_here"] ["_law_kinds","_law_many"] (defScope s_choices):=⟨rfl,rfl,rfl,by decide +kernel,rfl,by decide +kernel,by decide +kernel⟩
theorem ok_choices (D:DefAt K mg "_law_choices" s_choices) (T:Bn mg):Callee P w K mg base "_law_choices" 1 ["_law_kinds","_law_many"] sp_choices:=by
 refine D.callee zdB (fun _ _ _ _ _ _=>ln2 fun _ _=>rfl) (fun vs H Q E h => ?_) (fun f cdv A outer s H vs Q E hr h => ?_)
 ·obtain ⟨k,n,ws,ks,rfl,_⟩:=h
  rfl
 ·obtain ⟨k,n,ws,ks,rfl,hk,kr,hb,hn,q⟩:=h
  have S:=zdB
  have hlk:=kr.length
  have hpow:∀ i,i<=n->(ks.length + 1) ^ i<=1100:=fun i hi=>Nat.le_trans (Nat.pow_le_pow_right (by omega) hi) hb
  refine ⟨_,zad (zan (i:=2) S.nd rfl (Or.inl rfl) (zaU (zaa (zaU (zac)) zac)))
  (zad (zaY PassesOwn.never rfl (zbo rfl T.n_range (zaa (pv 1) zac)) (zam (i:=3) S.nd rfl (Or.inl rfl))
   (zad (zan (i:=4) S.nd rfl (Or.inl rfl) (zaU (zac)))
   (zad (zaY PassesOwn.never rfl (zav (pv 2)) (zam (i:=5) S.nd rfl (Or.inl rfl))
    (zad (zaS (zdm PySem.F.plainAttrs_list PySem.F.slot_list_append PySem.F.type_list_append zaW (pv 4) (zaa (pv 5) zac)))
    (zag (zaY PassesOwn.never rfl (zav (pv 0)) (zfy rfl (zbd (zam (i:=6) S.nd rfl (Or.inl rfl)) (zbd (zam (i:=7) S.nd rfl (Or.inl rfl)) (zc2))))
     (zag (zaS (zdm PySem.F.plainAttrs_list PySem.F.slot_list_append PySem.F.type_list_append zaW (pv 4) (zaa (zax zbS (pv 5) (zaU (zaa (zbR (zaa (pv 3) (zaa (pv 6) zac))) zac))) zac))))))))
   (zag (zan (i:=2) S.nd rfl (Or.inl rfl) (pv 4))))))
  (zag (zaj (pv 2)))),?_⟩
  refine ⟨bigr rfl,fun e0 ne0=>⟨bigr rfl,fun r0 nr0 => ?_⟩⟩
  have s1:Same H (upd H e0 (.lst [])):=Same.new ne0
  have s2:Same (upd H e0 (.lst [])) (upd (upd H e0 (.lst [])) r0 (.lst [.ref e0])):=Same.new nr0
  have hr0:upd (upd H e0 (.lst [])) r0 (.lst [.ref e0]) r0=some (.lst [.ref e0]):=zaf
  have he0:=s2 _ _ (show upd H e0 (.lst []) e0=some (.lst []) from zaf)
  have s12:=s1.trans s2
  generalize upd (upd H e0 (.lst [])) r0 (.lst [.ref e0])=H1 at s12 hr0 he0 ⊢
  refine ⟨_,rfl,_,rfl,by omega,by omega,?_⟩
  refine zbz (zaO 0 ((n:Nat):Int).toNat) (fun i σ Hx=>Same H Hx/\∃ r wr x3 x4 x5 x6 x7,σ = [some (.ref k),some (.int (n:Nat)),some (.ref r),x3,x4,x5,x6,x7]/\Hx r=some (.lst wr)/\ChR (fun z=>H z=none) Hx wr (chs ks i)) ⟨s12,r0,[.ref e0],_,_,_,_,_,rfl,hr0,.cons ⟨e0,[],rfl,ne0,he0,.nil⟩ .nil⟩ (fun _ _ _ _ _=>trivial) ?_ ?_
  ·rintro i x σ Hx hx ⟨sx,r,wr,x3,x4,x5,x6,x7,rfl,hrx,cr⟩
   obtain ⟨hi,rfl⟩:=zbm hx
   have hi':i < n:=by omega
   have e0i:(0:Int) + ((i:Nat):Int)=((i:Nat):Int):=by omega
   rw [e0i]
   have hlr:=Paired.length cr
   refine ⟨bigr rfl,fun m nm => ?_⟩
   have s3:Same Hx (upd Hx m (.lst [])):=Same.new nm
   refine ⟨_,rfl,_,rfl,⟨_,SqL.of (s3 _ _ hrx)⟩,?_⟩
   refine zbz (zak K r wr) (fun j σ Hy=>Same Hx Hy/\∃ wm x5 x6 x7,σ = [some (.ref k),some (.int (n:Nat)),some (.ref r),some (.int (i:Nat)),some (.ref m),x5,x6,x7]/\Hy m=some (.lst wm)/\ChR (fun z=>H z=none/\z≠m) Hy wm (((chs ks i).take j).flatMap fun l=>l :: ks.map fun c=>l ++ [(i,c.1)])) ⟨s3,[],_,_,_,rfl,zaf,.nil⟩ (fun j σ Hy _ h=>SqL.of (h.1 _ _ hrx)) ?_ ?_
   ·rintro j y σ Hy hy ⟨sy,wm,x5,x6,x7,rfl,hm,cm⟩
    obtain ⟨l,el,q1,vs1,rfl,hq1n,hq1,hl1⟩:=Paired.rev cr hy
    have hq1y:=sy _ _ hq1
    have hq1m:q1≠m:=fun z=>by rw [z,nm] at hq1; cases hq1
    have hll:l.length<=i:=ze7 (List.mem_of_getElem? el)
    have hv1:=Paired.length hl1
    have hlt:j < (chs ks i).length:=(List.getElem?_eq_some_iff.mp el).1
    have hlens:(((chs ks i).take j).flatMap fun l=>l :: ks.map fun c=>l ++ [(i,c.1)]).length + (ks.length + 1)<=1100:=by
     have e1:chs ks (i + 1)=((chs ks i).take j).flatMap (fun l=>l :: ks.map fun c=>l ++ [(i,c.1)]) ++ ((chs ks i).drop j).flatMap (fun l=>l :: ks.map fun c=>l ++ [(i,c.1)]):=by
      rw [<- List.flatMap_append,List.take_append_drop]; rfl
     have e2:(chs ks (i + 1)).length<=1100:=by rw [zeg]; exact hpow _ hi'
     rw [e1,List.length_append,List.drop_eq_getElem_cons hlt,List.flatMap_cons,List.length_append,List.length_cons,List.length_map] at e2
     omega
    have hwl:=Paired.length cm
    have hmt:∀ (wm':List V) (Hz:Hp),Hz m=some (.lst wm')->∀ q xs,Hz q=some (.tup xs)->∀ o,upd Hz m o q=some (.tup xs):=fun wm' Hz hz q xs e o=>by
     rw [zah (fun z=>by rw [z,hz] at e; cases e)]; exact e
    have hml:∀ (Hz:Hp) (o:HO) q u,q≠m->Hz q=some u->upd Hz m o q=some u:=fun Hz o q u z e=>by rw [zah z]; exact e
    refine ⟨_,rfl,.inl ⟨rfl,_,SqL.of hm⟩,_,rfl,m,_,_,rfl,rfl,hm,Nat.lt_of_lt_of_le (by omega:wm.length < 1200) (by decide),?_⟩
    have sy1:Same Hx (upd Hy m (.lst (wm ++ [.ref q1]))):=sy.put nm
    refine ⟨_,rfl,_,rfl,⟨_,SqL.of (sy1 _ _ (sx _ _ hk))⟩,?_⟩
    refine zbz (zak K k ws) (fun u σ Hz=>Same Hx Hz/\∃ wm' x6 x7,σ = [some (.ref k),some (.int (n:Nat)),some (.ref r),some (.int (i:Nat)),some (.ref m),some (.ref q1),x6,x7]/\Hz m=some (.lst wm')/\ChR (fun z=>H z=none/\z≠m) Hz wm' ((((chs ks i).take j).flatMap fun l=>l :: ks.map fun c=>l ++ [(i,c.1)]) ++ (l :: (ks.take u).map fun c=>l ++ [(i,c.1)]))) ⟨sy1,_,_,_,rfl,zaf,?_⟩ (fun u σ Hz _ h=>SqL.of (h.1 _ _ (sx _ _ hk))) ?_ ?_
    ·exact ChR.snoc (cm.mono (fun _ z _=>z) (fun q u z e=>hml Hy _ q u z.2 e) (fun q xs e=>hmt _ _ hm q xs e _)) (by rw [zah hq1m]; exact hq1y) ⟨hq1n,hq1m⟩ ((hl1.mono fun q xs e=>sy _ _ e).mono fun q xs e=>hmt _ _ hm q xs e _)
    ·rintro u z σ Hz hz ⟨sz,wm',x6',x7',rfl,hmz,cz⟩
     obtain ⟨c,qc,tc,hc,rfl,hqc,htc⟩:=kr.get hz
     have hul:u < ks.length:=(List.getElem?_eq_some_iff.mp hc).1
     have hwz:=Paired.length cz
     rw [List.length_append,List.length_cons,List.length_map,List.length_take] at hwz
     refine ⟨qc,_,rfl,SqL.of (sz _ _ (sx _ _ hqc)),rfl,_,_,rfl,_,_,rfl,rfl,?_⟩
     refine ⟨_,rfl,.inl ⟨rfl,_,SqL.of hmz⟩,_,rfl,_,rfl,_,rfl,bigr rfl,fun t nt=>⟨bigr rfl,fun e ne => ?_⟩⟩
     have s4:Same Hz (upd Hz t (.tup [.int (i:Nat),.str c.1])):=Same.new nt
     have ht4:upd Hz t (.tup [.int (i:Nat),.str c.1]) t=some (.tup [.int (i:Nat),.str c.1]):=zaf
     generalize upd Hz t (.tup [.int (i:Nat),.str c.1])=H4 at s4 ht4 ne ⊢
     have s5:Same H4 (upd H4 e (.lst [.ref t])):=Same.new ne
     have he5:upd H4 e (.lst [.ref t]) e=some (.lst [.ref t]):=zaf
     generalize upd H4 e (.lst [.ref t])=H5 at s5 he5 ⊢
     refine ⟨q1,e,vs1,[.ref t],rfl,rfl,s5 _ _ (s4 _ _ (sz _ _ hq1)),he5,Nat.le_trans (by rw [<- hv1,List.length_singleton]; omega:_<=1000) zby,fun p np => ?_⟩
     have s6:Same H5 (upd H5 p (.lst (vs1 ++ [.ref t]))):=Same.new np
     have hp6:upd H5 p (.lst (vs1 ++ [.ref t])) p=some (.lst (vs1 ++ [.ref t])):=zaf
     have npz:=(s4.trans s5).free np
     generalize upd H5 p (.lst (vs1 ++ [.ref t]))=H6 at s6 hp6 ⊢
     have s46:=(s4.trans s5).trans s6
     have hm6:=s46 _ _ hmz
     have hpm:p≠m:=fun z=>by rw [z,hmz] at npz; cases npz
     refine ⟨m,_,_,rfl,rfl,hm6,Nat.lt_of_lt_of_le (by omega:wm'.length < 1200) (by decide),?_⟩
     refine ⟨(sz.trans s46).put nm,_,_,_,rfl,zaf,?_⟩
     rw [zaE hc,List.map_append,<- List.cons_append,<- List.append_assoc]
     refine ChR.snoc (cz.mono (fun _ z _=>z) (fun q u hq e=>hml H6 _ q u hq.2 (s46 _ _ e)) (fun q xs e=>hmt _ _ hm6 q xs (s46 _ _ e) _)) (by rw [zah hpm]; exact hp6) ⟨(sx.trans sz).free npz,hpm⟩ ?_
     exact Paired.snoc ((hl1.mono fun q xs e=>(sz.trans s46) _ _ e).mono fun q xs e=>hmt _ _ hm6 q xs e _) ⟨t,rfl,hmt _ _ hm6 _ _ (s6 _ _ (s5 _ _ ht4)) _⟩
    ·rintro σ Hz ⟨sz,wm',x6',x7',rfl,hmz,cz⟩
     rw [hlk,List.take_length] at cz
     refine ⟨sz,wm',_,_,_,rfl,hmz,?_⟩
     rw [zaE el,List.flatMap_append]
     simpa using cz
   ·rintro σ Hy ⟨sy,wm,x5,x6,x7,rfl,hm,cm⟩
    rw [<- hlr,List.take_length] at cm
    refine ⟨_,rfl,sx.trans sy,m,wm,_,_,_,_,_,rfl,hm,?_⟩
    exact cm.mono (fun _ z _=>z.1) (fun _ _ _ e=>e) fun _ _ e=>e
  ·rintro σ Hx ⟨sx,r,wr,x3,x4,x5,x6,x7,rfl,hrx,cr⟩
   rw [zbC,show ((n:Nat):Int).toNat=n by omega] at cr
   exact ⟨_,rfl,q r wr Hx sx hrx cr⟩
noncomputable def sp_lteeth:Sp:=fun vs H Q _=>∃ (k:Addr) (x:Str) (ws:List V) (ks:Combs) (ts:List Int) (G:Addr->Prop),vs = [.ref k,.str x]/\H k=some (.lst ws)/\Drawn G H ws ks/\cGet ks x=some ts/\∀ t,G t->H t=some (.lst (ts.map V.int))->Q (.ref t) H
theorem zfp:FnScope ["_law_kinds","_law_word_here","_law_name","_law_teeth_here"] ["_law_kinds","_law_word_here"] (defScope s_teeth):=⟨rfl,rfl,rfl,by decide +kernel,rfl,by decide +kernel,by decide +kernel⟩
theorem ok_lteeth (D:DefAt K mg "_law_teeth" s_teeth) (T:Bn mg):Callee P w K mg base "_law_teeth" 1 ["_law_kinds","_law_word_here"] sp_lteeth:=by
 refine D.callee zfp (fun _ _ _ _ _ _=>ln2 fun _ _=>rfl) (fun vs H Q E h => ?_) (fun f cdv A outer s H vs Q E hr h => ?_)
 ·obtain ⟨k,x,ws,ks,ts,G,rfl,_⟩:=h
  rfl
 ·obtain ⟨k,x,ws,ks,ts,G,rfl,hk,dr,hg,q⟩:=h
  have S:=zfp
  have hlen:=dr.rows.length
  refine ⟨_,zad (zaY PassesOwn.never rfl (zav (pv 0)) (zfy rfl (zbd (zam (i:=2) S.nd rfl (Or.inl rfl)) (zbd (zam (i:=3) S.nd rfl (Or.inl rfl)) (zc2))))
   (zag (zaM (zar zb6 (pv 2) (pv 1) (zaw _))
    (zag (zaj (pv 3)))
    (zao))))
  (zag (zaj (zaU (zac)))),?_⟩
  refine ⟨_,rfl,_,rfl,⟨_,SqL.of hk⟩,?_⟩
  refine zbz (zak K k ws) (fun i σ Hx=>Hx=H/\(∀ c∈ks.take i,c.1≠x)/\∃ x2 x3,σ = [some (.ref k),some (.str x),x2,x3]) ⟨rfl,by simp,_,_,rfl⟩ (fun i σ Hx _ h=>by rw [h.1]; exact SqL.of hk) ?_ ?_
  ·rintro i y σ Hx hx ⟨rfl,hno,x2,x3,rfl⟩
   obtain ⟨c,qa,t,hc,rfl,hq,ht,hgt⟩:=dr.rows.getG hx
   refine ⟨qa,_,rfl,SqL.of hq,rfl,_,_,rfl,_,_,rfl,rfl,?_⟩
   refine ⟨_,rfl,_,rfl,rfl,_,rfl,?_⟩
   by_cases e:c.1=x
   ·rw [decide_eq_true (by rw [e])]
    refine iteT ?_
    have:=zcI dr.nd (List.mem_of_getElem? hc)
    rw [e,hg] at this
    refine ⟨_,rfl,q t hgt ?_⟩
    rw [ht,Option.some.inj this]
   ·rw [decide_eq_false (fun z=>e (by injection z))]
    refine iteF ?_
    refine ⟨rfl,fun c' hc' => ?_,_,_,rfl⟩
    rw [zaE hc] at hc'
    rcases List.mem_append.mp hc' with z | z
    ·exact hno c' z
    ·rw [List.mem_singleton.mp z]; exact e
  ·rintro σ Hx ⟨rfl,hno,x2,x3,rfl⟩
   rw [List.take_of_length_le (by omega)] at hno
   exact absurd rfl (hno _ (zee hg))
noncomputable def ovC (ks:Combs) (l:List (Nat×Str)) (m:Nat):List V:=(List.range m).map fun q=>V.int ((cov ks l q:Nat):Int)
theorem rep_oneT (m:Nat) (v:V):(List.replicate m [v]).flatten=List.replicate m v:=by
 induction m with
 | zero=>rfl
 | succ m ih=>rw [List.replicate_succ,List.flatten_cons,ih,List.replicate_succ]; rfl
noncomputable def sp_tally:Sp:=fun vs H Q _=>∃ (k l:Addr) (m:Nat) (ws wl:List V) (ks:Combs) (ly:List (Nat×Str)),vs = [.ref k,.ref l,.int (m:Nat)]/\H k=some (.lst ws)/\Drawn (fun _=>True) H ws ks/\H l=some (.lst wl)/\LyR H wl ly/\m<=1000/\(∀ x∈ly,x.1 + 8<=m/\x.2∈ks.map (·.1))/\∀ r H',Same H H'->H' r=some (.lst (ovC ks ly m))->Q (.ref r) H'
theorem zfq:FnScope ["_law_kinds","_law_layings_here","_law_many","_law_over","_law_place","_law_word_here","_law_t"] ["_law_kinds","_law_layings_here","_law_many"] (defScope s_tally):=⟨rfl,rfl,rfl,by decide +kernel,rfl,by decide +kernel,by decide +kernel⟩
theorem ok_tally (D:DefAt K mg "_law_tally" s_tally) (T:Bn mg) (C_teeth:Callee P w K mg base "_law_teeth" 1 ["_law_kinds","_law_word_here"] sp_lteeth):Callee P w K mg base "_law_tally" 2 ["_law_kinds","_law_layings_here","_law_many"] sp_tally:=by
 refine D.callee zfq (fun _ _ _ _ _ _=>ln3 fun _ _ _=>rfl) (fun vs H Q E h => ?_) (fun f cdv A outer s H vs Q E hr h => ?_)
 ·obtain ⟨k,l,m,ws,wl,ks,ly,rfl,_⟩:=h
  rfl
 ·obtain ⟨k,l,m,ws,wl,ks,ly,rfl,hk,dr,hl,lr,hm,hx8,q⟩:=h
  have S:=zfq
  have gc:GC ks:=fun c hc=>(dr.good c hc).2
  have hll:=Paired.length lr
  have hsz:(2000:Nat)<=sizeLine:=by decide
  refine ⟨_,zad (zan (i:=3) S.nd rfl (Or.inl rfl) (zax zgl (zaU (zaa (zab) zac)) (pv 2)))
  (zad (zaY PassesOwn.never rfl (zav (pv 1)) (pg_tup rfl (zbd (zam (i:=4) S.nd rfl (Or.inl rfl)) (zbd (zam (i:=5) S.nd rfl (Or.inl rfl)) (zc2))))
   (zag (zaY PassesOwn.never rfl (zav (zaK C_teeth (hr.mono (by decide)) rfl (zaa (pv 0) (zaa (pv 5) zac)))) (zam (i:=6) S.nd rfl (Or.inl rfl))
    (zag (zgZ (zax zbp (zaC zaI (pv 3) (zax zbp (pv 4) (pv 6)) (fun _ _=>rfl)) (zab)) (zg1 (pv 3) (zax zbp (pv 4) (pv 6)) zfm))))))
  (zag (zaj (pv 3)))),?_⟩
  refine ⟨bigr rfl,fun z nz=>⟨_,rfl,_,_,_,rfl,rfl,zaf,by omega,by omega,?_,fun po npo => ?_⟩⟩
  ·rw [List.length_singleton]; omega
  have s1:Same H (upd (upd H z (.lst [.int 0])) po (.lst (List.replicate ((m:Nat):Int).toNat [V.int 0]).flatten)):=(Same.new nz).trans (Same.new npo)
  have hpo:upd (upd H z (.lst [.int 0])) po (.lst (List.replicate ((m:Nat):Int).toNat [V.int 0]).flatten) po=some (.lst (ovC ks (ly.take 0) m)):=by
   rw [zaf,rep_oneT,show ((m:Nat):Int).toNat=m by omega]
   congr 2
   refine (List.eq_replicate_iff.mpr ⟨by unfold ovC; rw [List.length_map,List.length_range],fun b hb => ?_⟩).symm
   obtain ⟨p,_,rfl⟩:=List.mem_map.mp hb
   rfl
  have npo0:H po=none:=(Same.new nz).free npo
  generalize upd (upd H z (.lst [.int 0])) po (.lst (List.replicate ((m:Nat):Int).toNat [V.int 0]).flatten)=H1 at s1 hpo ⊢
  refine ⟨_,rfl,_,rfl,⟨_,SqL.of (s1 _ _ hl)⟩,?_⟩
  refine zbz (zak K l wl) (fun i σ Hx=>Same H Hx/\∃ (x4 x5 x6:Option V),σ = [some (.ref k),some (.ref l),some (.int (m:Nat)),some (.ref po),x4,x5,x6]/\Hx po=some (.lst (ovC ks (ly.take i) m))) ⟨s1,_,_,_,rfl,hpo⟩ (fun i σ Hx _ h=>SqL.of (h.1 _ _ hl)) ?_ ?_
  ·rintro i x σ Hx hx ⟨sx,x4,x5,x6,rfl,hpx⟩
   obtain ⟨⟨j,nmj⟩,ej,qa,rfl,hqa⟩:=Paired.rev lr hx
   obtain ⟨hj8,hjn⟩:=hx8 _ (List.mem_of_getElem? ej)
   dsimp only at hj8 hjn hqa
   obtain ⟨⟨_,ts⟩,hc,rfl⟩:=List.mem_map.mp hjn
   have hts:=zcI dr.nd hc
   dsimp only at hts hqa
   have gts:GT ts:=gc _ hc
   refine ⟨qa,_,rfl,SqT.of (sx _ _ hqa),rfl,_,_,rfl,_,_,rfl,rfl,?_⟩
   refine ⟨_,rfl,_,rfl,k,_,ws,ks,ts,_,rfl,sx _ _ hk,dr.live.same sx,hts,fun t ht0 ht => ?_⟩
   refine ⟨_,rfl,⟨_,SqL.of ht⟩,?_⟩
   have htp:t≠po:=fun e=>ht0 (by rw [e]; exact npo0)
   rename_i nmj
   refine zbz (zak K t (ts.map V.int)) (fun i' σ Hy=>Same H Hy/\Hy t=some (.lst (ts.map V.int))/\∃ x6,σ = [some (.ref k),some (.ref l),some (.int (m:Nat)),some (.ref po),some (.int (j:Nat)),some (.str nmj),x6]/\Hy po=some (.lst ((List.range m).map fun p=>V.int (((cov ks (ly.take i) p + ((ts.take i').map fun t=>j + t.toNat).count p:Nat)):Int)))) ⟨sx,ht,_,rfl,?_⟩ (fun i' σ Hy _ h=>SqL.of h.2.1) ?_ ?_
   ·rw [hpx]
    congr 2
   ·rintro i' y σ Hy hy ⟨sy,hty,x6,rfl,hpy⟩
    rw [List.getElem?_map] at hy
    cases hu:ts[i']? with
    | none=>rw [hu] at hy; cases hy
    | some u =>
     rw [hu] at hy
     cases hy
     have hub:=zdp gts u (List.mem_of_getElem? hu)
     have hjn:j + u.toNat < m:=by omega
     have hix:ixN ((List.range m).map fun p=>V.int (((cov ks (ly.take i) p + ((ts.take i').map fun t=>j + t.toNat).count p:Nat)):Int)).length (((j:Nat):Int) + u)=some (j + u.toNat):=by
      unfold ixN
      rw [List.length_map,List.length_range,if_pos (by omega),if_pos (by omega)]
      congr 1
      omega
     refine ⟨_,rfl,_,rfl,_,rfl,_,_,rfl,rfl,_,_,_,_,rfl,rfl,SqL.of hpy,atI_int (by omega) (v:=V.int (((cov ks (ly.take i) (j + u.toNat) + ((ts.take i').map fun t=>j + t.toNat).count (j + u.toNat):Nat)):Int)) ?_,_,_,rfl,rfl,?_⟩
     ·rw [show (((j:Nat):Int) + u).toNat=j + u.toNat by omega,List.getElem?_map,List.getElem?_range hjn]
      rfl
     refine ⟨_,rfl,_,rfl,_,rfl,_,_,rfl,rfl,po,_,_,_,rfl,rfl,hpy,hix,?_⟩
     refine ⟨sy.put npo0,(by rw [zah htp]; exact hty),_,rfl,?_⟩
     rw [zaf,zgo _ _ hjn]
     congr 2
     refine List.map_congr_left fun p _ => ?_
     rw [zaE hu,List.map_append,List.count_append]
     by_cases e:p=j + u.toNat
     ·subst e
      rw [if_pos rfl]
      simp
      omega
     ·rw [if_neg e]
      simp [Ne.symm e]
   ·rintro σ Hy ⟨sy,hty,x6,rfl,hpy⟩
    rw [List.length_map,List.take_length] at hpy
    refine ⟨sy,_,_,_,rfl,?_⟩
    rw [hpy]
    congr 2
    unfold ovC
    refine List.map_congr_left fun p _ => ?_
    rw [zaE ej,zcz,count_teeth (za4 (zgx gts)) (fun t ht=>(zdp gts t ht).1)]
    unfold hit tkOf
    dsimp only
    rw [hts]
    by_cases hjp:j<=p
    ·rw [if_pos hjp,decide_eq_true hjp,Bool.true_and]; rfl
    ·rw [if_neg hjp,decide_eq_false hjp,Bool.false_and]; rfl
  ·rintro σ Hx ⟨sx,x4,x5,x6,rfl,hpx⟩
   rw [<- hll,List.take_length] at hpx
   exact ⟨_,rfl,q po Hx sx hpx⟩
theorem zg7 {a b:Nat}:([a] < [b]) ↔ a < b:=by
 rw [List.cons_lt_cons_iff]
 simp
theorem le_a (c:Nat):(!decide ((⟨#[c]⟩:Str).cps.toList < (Str.ofString "a").cps.toList))=decide (97<=c):=by
 have e:(Str.ofString "a").cps.toList = [97]:=by decide +kernel
 rw [e]
 show (!decide ([c] < [97]))=_
 rw [Bool.eq_iff_iff]
 simp only [Bool.not_eq_true',decide_eq_false_iff_not,decide_eq_true_eq,zg7]
 omega
theorem le_z (c:Nat):(!decide ((Str.ofString "z").cps.toList < (⟨#[c]⟩:Str).cps.toList))=decide (c<=122):=by
 have e:(Str.ofString "z").cps.toList = [122]:=by decide +kernel
 rw [e]
 show (!decide ([122] < [c]))=_
 rw [Bool.eq_iff_iff]
 simp only [Bool.not_eq_true',decide_eq_false_iff_not,decide_eq_true_eq,zg7]
 omega
noncomputable def sp_small:Sp:=fun vs H Q _=>∃ c:Nat,vs = [sgn c]/\Q (.bl (small c)) H
theorem zbu:FnScope ["sign"] ["sign"] (defScope s_is_small_letter):=⟨rfl,rfl,rfl,by decide +kernel,rfl,by decide +kernel,by decide +kernel⟩
theorem ok_small (D:DefAt K mg "is_small_letter" s_is_small_letter) (T:Bn mg):Callee P w K mg base "is_small_letter" 1 ["sign"] sp_small:=by
 refine D.callee zbu (fun _ _ _ _ _ _=>ln1 fun _=>rfl) (fun vs H Q E h => ?_) (fun f cdv A outer s H vs Q E hr h => ?_)
 ·obtain ⟨c,rfl,_⟩:=h
  rfl
 ·obtain ⟨c,rfl,q⟩:=h
  have S:=zbu
  refine ⟨_,zag (zaj (zfA zex zex (zas) (pv 0) (zas))),?_⟩
  refine ⟨_,rfl,_,_,rfl,rfl,_,rfl,?_⟩
  rw [le_a]
  have q':Q (.bl (decide (97<=c) && decide (c<=122))) H:=q
  cases e:decide (97<=c) with
  | false =>
   rw [if_neg Bool.false_ne_true]
   rw [e] at q'
   exact q'
  | true =>
   rw [if_pos rfl]
   refine ⟨_,_,rfl,rfl,?_⟩
   rw [le_z]
   rw [e] at q'
   exact q'
noncomputable def sp_name:Sp:=fun vs H Q _=>∃ x:Str,vs = [.str x]/\x.length<=sizeLine/\∀ H',Same H H'->Q (.bl (isName x)) H'
theorem zdA:FnScope ["text"] ["text"] (defScope s_is_name):=⟨rfl,rfl,rfl,by decide +kernel,rfl,by decide +kernel,by decide +kernel⟩
theorem ok_name (D:DefAt K mg "is_name" s_is_name) (T:Bn mg) (V_MOST_NAME:∃ t,mg "MOST_NAME" = some (.int 6 t)) (C_is_small_letter:Callee P w K mg base "is_small_letter" 1 ["sign"] sp_small):Callee P w K mg base "is_name" 2 ["text"] sp_name:=by
 refine D.callee zdA (fun _ _ _ _ _ _=>ln1 fun _=>rfl) (fun vs H Q E h => ?_) (fun f cdv A outer s H vs Q E hr h => ?_)
 ·obtain ⟨c,rfl,_⟩:=h
  rfl
 ·obtain ⟨x,rfl,hx,q⟩:=h
  have S:=zdA
  refine ⟨_,zad (zaM (zbn (zcU zdo zdo (zab) (zai call_len_str rfl T.n_len PySem.boot_len (zaa (pv 0) zac)) (zbG rfl V_MOST_NAME)))
   (zag (zaj (zb5)))
   (zao))
  (zag (zaj (zai (zfQ rfl) rfl T.n_all boot_all (zaa (za2 (own := ["sign"]) (caps := []) rfl ⟨rfl,rfl,rfl,rfl,trivial⟩ (zg0 (pv 0)) (fun _ _ _ _ _ _=>zam (i:=0) (zaT (by decide +kernel)) rfl (Or.inl rfl)) (fun _ _ _ _ _ _=>zbi) (fun _ _ _ _ _ _=>zaK C_is_small_letter (hr.mono (by decide)) rfl (zaa (pv 0) zac))) zac)))),?_⟩
  have fin:∀ H',Same H H'->(decide (1<=x.length) && decide (x.length<=6))=false->Q (.bl false) H':=fun H' s' e=>by
   have:=q H' s'
   unfold isName at this
   rw [e] at this
   exact this
  refine ⟨_,rfl,_,rfl,hx,_,_,rfl,rfl,_,rfl,?_⟩
  refine ite2 (fun h1 => ?_) (fun h1 => ?_)
  ·refine ⟨_,_,rfl,rfl,_,rfl,?_⟩
   refine ite2 (fun h2 => ?_) (fun h2 => ?_)
   ·refine fin H (Same.refl H) ?_
    have:¬ (x.length:Int)<=6:=by simpa using h2
    rw [Bool.and_eq_false_iff]
    exact .inr (decide_eq_false (by omega))
   ·refine ⟨_,rfl,_,rfl,fun D hD => ?_⟩
    refine zcA (capv := []) (L:=x.cps.toList.map sgn) (by rfl) (zeH x) (by rw [List.length_map,zcE]; exact hx) hD ?_ (fun _=>true) (fun v=>match v with | .str y => .bl (small (y.cps.getD 0 0)) | _ => .non) ?_ ?_ ?_
    ·exact fun _ _=>trivial
    ·exact fun v hv H' R s' h=>h H' (Same.refl _)
    ·intro v hv _ H' R s' h
     obtain ⟨c,hc,rfl⟩:=List.mem_map.mp hv
     exact ⟨_,rfl,c,rfl,h H' (Same.refl _)⟩
    ·intro H' s' e
     refine ⟨_,x.cps.toList.map small,rfl,?_,?_⟩
     ·refine SqL.of ?_
      rw [e]
      congr 2
      rw [List.filter_eq_self.mpr (fun _ _=>rfl),List.map_map,List.map_map]
      rfl
     ·have:=q H' s'
      unfold isName at this
      have h3:¬ ¬ (x.length:Int)<=6:=by simpa using h2
      have h1':(1:Int)<=x.length:=by simpa using h1
      rw [decide_eq_true (show 1<=x.length by omega),decide_eq_true (show x.length<=6 by omega)] at this
      rw [List.all_map]
      exact this
  ·refine ⟨_,rfl,?_⟩
   refine fin H (Same.refl H) ?_
   have h1':¬ (1:Int)<=x.length:=by simpa using h1
   rw [Bool.and_eq_false_iff]
   exact .inl (decide_eq_false (by omega))
noncomputable def sp_teeth (K:W.Frag):Sp:=fun vs H Q _=>∃ (a:Addr) (ts:List Int),vs = [.ref a]/\SqL K H a (ts.map V.int)/\ts.length<=1000/\∀ H',Same H H'->Q (.bl (areTeeth ts)) H'
theorem zcP:FnScope ["teeth"] ["teeth"] (defScope s_are_teeth):=⟨rfl,rfl,rfl,by decide +kernel,rfl,by decide +kernel,by decide +kernel⟩
theorem ok_teeth (D:DefAt K mg "are_teeth" s_are_teeth) (T:Bn mg) (V_MOST_TOOTH:∃ t,mg "MOST_TOOTH" = some (.int 7 t)):Callee P w K mg base "are_teeth" 1 ["teeth"] (sp_teeth K):=by
 refine D.callee zcP (fun _ _ _ _ _ _=>ln1 fun _=>rfl) (fun vs H Q E h => ?_) (fun f cdv A outer s H vs Q E hr h => ?_)
 ·obtain ⟨a,ts,rfl,_⟩:=h
  rfl
 ·obtain ⟨a,ts,rfl,ha,hl,q⟩:=h
  have S:=zcP
  unfold areTeeth at q
  refine ⟨_,zad (zaM (zar zbY (zab) (pv 0) (by with_unfolding_all rfl))
   (zag (zaj (zb5)))
   (zao))
  (zad (zaM (zar zev (zai call_lenS rfl T.n_len PySem.boot_len (zaa (zcw (call_set1 rfl) rfl T.n_set boot_set (zaa (pv 0) zac)) zac)) (zai zau rfl T.n_len PySem.boot_len (zaa (pv 0) zac)) (zaw _))
   (zag (zaj (zb5)))
   (zao))
  (zag (zaj (zai (zfQ rfl) rfl T.n_all boot_all (zaa (za2 (own := ["tooth"]) (caps := []) rfl ⟨rfl,rfl,rfl,rfl,trivial⟩ (zav (pv 0)) (fun _ _ _ _ _ _=>zam (i:=0) (zaT (by decide +kernel)) rfl (Or.inl rfl)) (fun _ _ _ _ _ _=>zbi) (fun _ _ _ _ _ _=>zfA zdo zdo (zab) (pv 0) (zbG rfl V_MOST_TOOTH))) zac))))),?_⟩
  refine ⟨_,rfl,_,_,rfl,.inl ha,rfl,zhE ts,_,rfl,?_⟩
  rw [if_pos rfl,in_zero]
  refine ite2 (fun hc => ?_) (fun hc => ?_)
  ·have h0:decide (0∈ts)=false:=by simpa using hc
   rw [h0] at q
   exact q H (Same.refl H)
  ·have h0:decide (0∈ts)=true:=by simpa using hc
   rw [h0,Bool.true_and] at q
   refine ⟨_,rfl,_,ts,rfl,ha,?_,fun p np => ?_⟩
   ·show ts.length + 1 < 4096
    omega
   have s1:Same H (upd H p (.set (fun k=>(firstMet (fun i=>ts.getD i 0) ts.length).any (· == k)) (many ts))):=Same.new np
   refine ⟨_,_,_,rfl,zaf,_,rfl,_,_,rfl,.inl (s1.seq ha),rfl,_,rfl,?_⟩
   rw [List.length_map]
   refine ite2 (fun hm => ?_) (fun hm => ?_)
   ·have h1:¬ many ts=ts.length:=fun z=>by simp [z] at hm
    rw [decide_eq_false h1,Bool.false_and] at q
    exact q _ s1
   ·have h1:many ts=ts.length:=by
     have:(many ts:Int)=(ts.length:Int):=by simpa using hm
     omega
    rw [decide_eq_true h1,Bool.true_and] at q
    refine ⟨_,rfl,_,rfl,⟨_,s1.seq ha⟩,fun D hD => ?_⟩
    refine zcA (capv := []) (L:=ts.map V.int) (by rfl) (zak K a (ts.map V.int)) (by rw [List.length_map]; exact big hl) hD ?_ (fun _=>true) (fun v=>match v with | .int t => .bl (inR t) | _ => .non) ?_ ?_ ?_
    ·exact fun H' s'=>(s1.trans s').seq ha
    ·exact fun v hv H' R s' h=>h H' (Same.refl _)
    ·intro v hv _ H' R s' h
     obtain ⟨t,ht,rfl⟩:=List.mem_map.mp hv
     have h:=h H' (Same.refl _)
     have h:R (.bl (decide (0<=t) && decide (t<=7))) H':=h
     refine ⟨_,rfl,_,_,rfl,rfl,_,rfl,?_⟩
     cases e:decide (0<=t) with
     | false =>
      rw [e] at h
      exact iteF h
     | true =>
      rw [e] at h
      exact iteT ⟨_,_,rfl,rfl,h⟩
    ·intro H' s' e
     refine ⟨_,ts.map inR,rfl,?_,?_⟩
     ·refine SqL.of ?_
      rw [e]
      congr 2
      rw [List.filter_eq_self.mpr (fun _ _=>rfl),List.map_map,List.map_map]
      rfl
     ·have:=q H' (s1.trans s')
      rw [List.all_map]
      exact this
theorem zbH {d l:V}:([("combs",d),("past",l)]:List (Str×V)).lookup (Str.ofString "combs")=some d:=rfl
theorem zd8 {d l:V}:([("combs",d),("past",l)]:List (Str×V)).lookup (Str.ofString "past")=some l:=rfl
theorem putF_combs {y d l:V}:putF (Str.ofString "combs") y [("combs",d),("past",l)] = [(Str.ofString "combs",y),(Str.ofString "past",l)]:=by
 unfold putF
 rw [if_pos rfl]
theorem putF_new {y:V}:putF (Str.ofString "combs") y [] = [(Str.ofString "combs",y)]:=rfl
theorem putF_past {y d:V}:putF (Str.ofString "past") y [("combs",d)] = [(Str.ofString "combs",d),(Str.ofString "past",y)]:=by
 have h:¬ (Str.ofString "combs" = Str.ofString "past"):=by decide +kernel
 unfold putF
 rw [if_neg h]
 rfl
theorem two_len {a b:Str×V} : [a,b].length < 1000:=show 2 < 1000 by decide
noncomputable def sp_check (ea:Nat->Addr) (C:Addr):Sp:=fun vs H Q E=>∃ b l G cs past x,vs = [.ref b,.str x]/\Bk C G H b l cs past/\(if (cGet cs x).isSome=true then Q .non H else E (.ref (ea 4)) none H)
theorem zbw:FnScope ["self","name"] ["self","name"] (defScope s_Book_check_comb):=⟨rfl,rfl,rfl,by decide +kernel,rfl,by decide +kernel,by decide +kernel⟩
theorem ok_check {ea:Nat->Addr} {C:Addr} (D:MethAt K C "Book" "check_comb" s_Book_check_comb) (T:Bn mg) (BA:BookAt K C) (O_NoComb:Err K mg "NoComb" (ea 4)):Method P w K mg base C "check_comb" (CX1 P w) 1 ["self","name"] (sp_check ea C):=by
 refine D.meth1 zbw (fun _ _ _ _ _ _=>ln2 fun _ _=>rfl) (fun vs H Q E h => ?_) (fun f cdv A outer s H vs Q E hr h => ?_)
 ·obtain ⟨b,l,G,cs,past,x,rfl,_⟩:=h
  rfl
 ·obtain ⟨b,l,G,cs,past,x,rfl,B,q⟩:=h
  have S:=zbw
  have hu:=zdc hr
  obtain ⟨dx,d,hb,gd,kvs,hd,kr⟩:=B.ins
  refine ⟨_,zag (zaM (zgb (zeu hu (pv 1) (zbW (pv 0) rfl)))
   (zag (zbb O_NoComb rfl (zaa (zas) zac)))
   (zao)),?_⟩
  refine ⟨_,rfl,_,rfl,_,_,_,_,_,rfl,hb,BA.cls,BA.nc,zbH,d,_,rfl,DGet.k (k:=Sum.inr x) hd,_,rfl,?_⟩
  rw [kr.some]
  cases e:(cGet cs x).isSome with
  | false =>
   rw [e] at q
   exact iteT ⟨bigr rfl,q⟩
  | true =>
   rw [e] at q
   exact iteF q
noncomputable def sp_do (ea:Nat->Addr) (C:Addr):Sp:=fun vs H Q E=>∃ b l G cs past d D cs',vs = [.ref b,.ref d]/\Bk C G H b l cs past/\DictR D H d cs'/\Good cs'/\(∀ x,D x->x≠b/\x≠l/\H x≠none) /\
 (if 300<=past.length then E (.ref (ea 9)) none H else ∀ H',(∀ a,a≠b->a≠l->H' a=H a)->Bk C (fun a=>G a\/D a) H' b l cs' (past ++ [cs])->Q (.int ((past.length:Int) + 1)) H')
theorem zbV:FnScope ["self","combs"] ["self","combs"] (defScope s_Book_do_deed):=⟨rfl,rfl,rfl,by decide +kernel,rfl,by decide +kernel,by decide +kernel⟩
theorem ok_do {ea:Nat->Addr} {C:Addr} (D:MethAt K C "Book" "do_deed" s_Book_do_deed) (T:Bn mg) (BA:BookAt K C) (V_MOST_DEEDS:∃ t,mg "MOST_DEEDS" = some (.int 300 t)) (O_DeedsFull:Err K mg "DeedsFull" (ea 9)):Method P w K mg base C "do_deed" (CX1 P w) 1 ["self","combs"] (sp_do ea C):=by
 refine D.meth1 zbV (fun _ _ _ _ _ _=>ln2 fun _ _=>rfl) (fun vs H Q E h => ?_) (fun f cdv A outer s H vs Q E hr h => ?_)
 ·obtain ⟨b,l,G,cs,past,d,D,cs',rfl,_⟩:=h
  rfl
 ·obtain ⟨b,l,G,cs,past,d1,Dd,cs',rfl,B,dr,gd',nD,q⟩:=h
  have S:=zbV
  have hu:=zdc hr
  obtain ⟨dx,d,hb,dr0⟩:=B.ins
  obtain ⟨vs,hl,pr⟩:=B.lst
  have hlen:=pr.length
  have hbl:b≠l:=zhC hb hl (by intro z; cases z)
  refine ⟨_,zad (zaM (zar zhB (zai zau rfl T.n_len PySem.boot_len (zaa (zbW (pv 0) rfl) zac)) (zbG rfl V_MOST_DEEDS) (zaw _))
   (zag (zbb O_DeedsFull rfl (zaa (zas) zac)))
   (zao))
  (zad (zaS (zdm PySem.F.plainAttrs_list PySem.F.slot_list_append PySem.F.type_list_append zaW (zbW (pv 0) rfl) (zaa (zbW (pv 0) rfl) zac)))
  (zad (zgd (pv 0) (pv 1) rfl)
  (zag (zaj (zai zau rfl T.n_len PySem.boot_len (zaa (zbW (pv 0) rfl) zac)))))),?_⟩
  refine ⟨_,rfl,_,_,_,_,_,rfl,hb,BA.cls,BA.np,zd8,_,_,rfl,.inl (SqL.of hl),_,_,rfl,rfl,_,rfl,?_⟩
  refine ite2 (fun hc => ?_) (fun hc => ?_)
  ·have h300:300<=past.length:=by
    have:(300:Int)<=(vs.length:Int):=by simpa using hc
    omega
   rw [if_pos h300] at q
   exact ⟨bigr rfl,q⟩
  ·have h300:¬ 300<=past.length:=by
    have:¬ (300:Int)<=(vs.length:Int):=by simpa using hc
    omega
   rw [if_neg h300] at q
   refine ⟨_,rfl,_,_,_,_,_,rfl,hb,BA.cls,BA.np,zd8,.inl ⟨rfl,_,SqL.of hl⟩,_,rfl,_,_,_,_,_,rfl,hb,BA.cls,BA.nc,zbH,_,_,_,rfl,rfl,hl,?_,?_⟩
   ·exact Nat.lt_of_lt_of_le (by omega:vs.length < 1000) zby
   have hb1:upd H l (.lst (vs ++ [.ref d])) b=some (.ins C dx [("combs",.ref d),("past",.ref l)]):=by rw [zah hbl]; exact hb
   refine ⟨_,rfl,_,rfl,_,_,_,_,rfl,hb1,BA.cls,BA.nc,two_len,?_⟩
   rw [putF_combs]
   have hb2:upd (upd H l (.lst (vs ++ [.ref d]))) b (.ins C dx [("combs",.ref d1),("past",.ref l)]) b=some (.ins C dx [("combs",.ref d1),("past",.ref l)]):=zaf
   have hl2:upd (upd H l (.lst (vs ++ [.ref d]))) b (.ins C dx [("combs",.ref d1),("past",.ref l)]) l=some (.lst (vs ++ [.ref d])):=by rw [zah (Ne.symm hbl),zaf]
   have off:∀ a,a≠b->a≠l->upd (upd H l (.lst (vs ++ [.ref d]))) b (.ins C dx [("combs",.ref d1),("past",.ref l)]) a=H a:=fun a n1 n2=>by rw [zah n1,zah n2]
   generalize upd (upd H l (.lst (vs ++ [.ref d]))) b (.ins C dx [("combs",.ref d1),("past",.ref l)])=H2 at hb2 hl2 off
   refine ⟨_,rfl,_,_,_,_,_,rfl,hb2,BA.cls,BA.np,zd8,_,_,rfl,.inl (SqL.of hl2),?_⟩
   rw [List.length_append,List.length_singleton,hlen]
   have sG:∀ a o,G a->H a=some o->H2 a=some o:=fun a o g e=>(off a (fun z=>B.nb (z ▸ g)) (fun z=>B.nl (z ▸ g))).trans e
   have sD:∀ a o,Dd a->H a=some o->H2 a=some o:=fun a o g e=>(off a (nD a g).1 (nD a g).2.1).trans e
   refine q H2 off ⟨?_,?_,?_,⟨dx,d1,hb2,dr.mono sD fun _ g => .inr g⟩,⟨_,hl2,?_⟩,gd',?_,?_⟩
   ·rintro x (g | g)
    ·rw [off x (fun z=>B.nb (z ▸ g)) (fun z=>B.nl (z ▸ g))]; exact B.live x g
    ·rw [off x (nD x g).1 (nD x g).2.1]; exact (nD x g).2.2
   ·rintro (g | g)
    ·exact B.nb g
    ·exact (nD b g).1 rfl
   ·rintro (g | g)
    ·exact B.nl g
    ·exact (nD l g).2.1 rfl
   ·exact Paired.snoc (Paired.mono (fun _ _ ⟨d,e,r⟩=>⟨d,e,r.mono sG fun _ g => .inl g⟩) pr) ⟨d,rfl,dr0.mono sG fun _ g => .inl g⟩
   ·intro p hp
    rcases List.mem_append.mp hp with z | z
    ·exact B.goods p z
    ·rw [List.mem_singleton.mp z]; exact B.good
   ·rw [List.length_append,List.length_singleton]; omega
noncomputable def sp_deeds (C:Addr):Sp:=fun vs H Q _=>∃ b l G cs past,vs = [.ref b]/\Bk C G H b l cs past/\Q (.int (past.length:Int)) H
theorem zcv:FnScope ["self"] ["self"] (defScope s_Book_deeds):=⟨rfl,rfl,rfl,by decide +kernel,rfl,by decide +kernel,by decide +kernel⟩
theorem ok_deeds {C:Addr} (D:MethAt K C "Book" "deeds" s_Book_deeds) (T:Bn mg) (BA:BookAt K C):Method P w K mg base C "deeds" CX0 1 ["self"] (sp_deeds C):=by
 refine D.meth0 zcv (fun _ _ _ _ _ _=>ln1 fun _=>rfl) (fun vs H Q E h => ?_) (fun f cdv A outer s H vs Q E hr h => ?_)
 ·obtain ⟨b,l,G,cs,past,rfl,_⟩:=h
  rfl
 ·obtain ⟨b,l,G,cs,past,rfl,B,q⟩:=h
  have S:=zcv
  obtain ⟨dx,d,hb,dr0⟩:=B.ins
  obtain ⟨vs,hl,pr⟩:=B.lst
  refine ⟨_,zag (zaj (zai zau rfl T.n_len PySem.boot_len (zaa (zbW (pv 0) rfl) zac))),?_⟩
  refine ⟨_,rfl,_,_,_,_,_,rfl,hb,BA.cls,BA.np,zd8,_,_,rfl,.inl (SqL.of hl),?_⟩
  rw [pr.length]
  exact q
noncomputable def sp_names (C:Addr):Sp:=fun vs H Q _=>∃ b l G cs past,vs = [.ref b]/\Bk C G H b l cs past/\∀ p (nm:List Str),H p=none->nm.Perm (cs.map (·.1))->sortedS nm=true->Q (.ref p) (upd H p (.lst (nm.map V.str)))
theorem zcu:FnScope ["self"] ["self"] (defScope s_Book_names):=⟨rfl,rfl,rfl,by decide +kernel,rfl,by decide +kernel,by decide +kernel⟩
theorem ok_names {C:Addr} (D:MethAt K C "Book" "names" s_Book_names) (T:Bn mg) (BA:BookAt K C):Method P w K mg base C "names" CX0 1 ["self"] (sp_names C):=by
 refine D.meth0 zcu (fun _ _ _ _ _ _=>ln1 fun _=>rfl) (fun vs H Q E h => ?_) (fun f cdv A outer s H vs Q E hr h => ?_)
 ·obtain ⟨b,l,G,cs,past,rfl,_⟩:=h
  rfl
 ·obtain ⟨b,l,G,cs,past,rfl,B,q⟩:=h
  have S:=zcu
  obtain ⟨dx,d,hb,gd,kvs,hd,kr⟩:=B.ins
  refine ⟨_,zag (zaj (zai (call_sortedD rfl) rfl T.n_sorted boot_sorted (zaa (zbW (pv 0) rfl) zac))),?_⟩
  refine ⟨_,rfl,_,_,_,_,_,rfl,hb,BA.cls,BA.nc,zbH,d,kvs,cs.map (·.1),rfl,.inl hd,kr.keys,?_,q⟩
  rw [List.length_map]
  have:=B.good.len
  omega
noncomputable def sp_bteeth (ea:Nat->Addr) (C:Addr):Sp:=fun vs H Q E=>∃ b l G cs past x,vs = [.ref b,.str x]/\Bk C G H b l cs past/\(match cGet cs x with | some ts=>∀ p,H p=none->Q (.ref p) (upd H p (.lst (ts.map V.int))) | none=>E (.ref (ea 4)) none H)
theorem zct:FnScope ["self","name"] ["self","name"] (defScope s_Book_teeth):=⟨rfl,rfl,rfl,by decide +kernel,rfl,by decide +kernel,by decide +kernel⟩
theorem ok_bteeth {ea:Nat->Addr} {C:Addr} (D:MethAt K C "Book" "teeth" s_Book_teeth) (T:Bn mg) (BA:BookAt K C) (M_check_comb:Method P w K mg base C "check_comb" (CX1 P w) 1 ["self","name"] (sp_check ea C)):Method P w K mg base C "teeth" (CX1 P w) 2 ["self","name"] (sp_bteeth ea C):=by
 refine D.meth1 zct (fun _ _ _ _ _ _=>ln2 fun _ _=>rfl) (fun vs H Q E h => ?_) (fun f cdv A outer s H vs Q E hr h => ?_)
 ·obtain ⟨b,l,G,cs,past,x,rfl,_⟩:=h
  rfl
 ·obtain ⟨b,l,G,cs,past,x,rfl,B,q⟩:=h
  have S:=zct
  have hu:=zdc hr
  have B_cls:=BA.cls
  obtain ⟨dx,d,hb,gd,kvs,hd,kr⟩:=id B.ins
  refine ⟨_,zad (zaS (ze0 (pv 0) B_cls M_check_comb (hr.mono (by decide)) (by first | exact zdn | exact zat | exact zbg | exact zaz) (zaa (pv 1) zac)))
  (zag (zaj (zcw zcR rfl T.n_list boot_list (zaa (zgi hu (zbW (pv 0) rfl) (pv 1) (fun _ _=>rfl)) zac)))),?_⟩
  refine ⟨_,rfl,_,_,_,rfl,hb,rfl,_,rfl,b,l,G,cs,past,x,rfl,B,?_⟩
  rcases kr.val (x:=x) with ⟨e1,e2⟩ | ⟨ts,t,e1,e2,e3,e4⟩
  ·rw [e1] at q ⊢
   exact q
  ·rw [e1] at q ⊢
   refine iteT ?_
   refine ⟨_,rfl,_,_,_,_,_,rfl,hb,BA.cls,BA.nc,zbH,_,rfl,d,_,rfl,?_,_,_,rfl,.inl (SqL.of e3),q⟩
   rw [<- e2]
   exact DGet.k (k:=Sum.inr x) hd
noncomputable def sp_init (C:Addr):Sp:=fun vs H Q _=>∃ b dx,vs = [.ref b]/\H b=some (.ins C dx [])/\∀ H' l d,Mv b b (fun _=>False) (fun a=>a=d) H H'->H l=none->H d=none->Bk C (fun a=>a=d) H' b l [] []->Q .non H'
theorem zbP:FnScope ["self"] ["self"] (defScope s_Book___init__):=⟨rfl,rfl,rfl,by decide +kernel,rfl,by decide +kernel,by decide +kernel⟩
theorem ok_init {C:Addr} {f:Addr} {fd:FuncData} (F:Fun K "__init__" "Book.__init__" s_Book___init__ f fd) (T:Bn mg) (BA:BookAt K C):FnOk P w K mg base CX0 1 f fd ["self"] (sp_init C):=by
 refine F.ok zbP (fun vs H Q E h => ?_) (fun cdv A outer s H vs Q E hr h => ?_)
 ·obtain ⟨b,dx,rfl,_⟩:=h
  rfl
 ·obtain ⟨b,dx,rfl,hb,q⟩:=h
  have S:=zbP
  refine ⟨_,zad (zgd (pv 0) (zd1) rfl)
  (zag (zgd (pv 0) (zaU (zac)) rfl)),?_⟩
  refine fun d nd => ?_
  have hbd:b≠d:=zaq hb nd
  have hb1:upd H d (.dK []) b=some (.ins C dx []):=by rw [zah hbd]; exact hb
  refine ⟨_,rfl,_,_,_,_,rfl,hb1,BA.cls,BA.nc,by decide,?_⟩
  rw [putF_new]
  refine ⟨bigr rfl,fun l nl => ?_⟩
  have hbl:b≠l:=fun z=>by rw [<- z,zaf] at nl; cases nl
  have nl1:upd H d (.dK []) l=none:=by rw [zah (Ne.symm hbl)] at nl; exact nl
  have hdl:d≠l:=fun z=>by rw [<- z,zaf] at nl1; cases nl1
  have hln:H l=none:=by rw [zah (Ne.symm hdl)] at nl1; exact nl1
  have hb2:upd (upd (upd H d (.dK [])) b (.ins C dx [(Str.ofString "combs",V.ref d)])) l (.lst []) b=some (.ins C dx [("combs",.ref d)]):=by rw [zah hbl,zaf]
  refine ⟨_,rfl,_,_,_,_,rfl,hb2,BA.cls,BA.np,(show 1 < 1000 by decide),?_⟩
  rw [putF_past]
  have hb3:upd (upd (upd (upd H d (.dK [])) b (.ins C dx [(Str.ofString "combs",V.ref d)])) l (.lst [])) b (.ins C dx [(Str.ofString "combs",V.ref d),(Str.ofString "past",V.ref l)]) b=some (.ins C dx [("combs",.ref d),("past",.ref l)]):=zaf
  have hd3:upd (upd (upd (upd H d (.dK [])) b (.ins C dx [(Str.ofString "combs",V.ref d)])) l (.lst [])) b (.ins C dx [(Str.ofString "combs",V.ref d),(Str.ofString "past",V.ref l)]) d=some (.dK []):=by
   rw [zah (Ne.symm hbd),zah hdl,zah (Ne.symm hbd),zaf]
  have hl3:upd (upd (upd (upd H d (.dK [])) b (.ins C dx [(Str.ofString "combs",V.ref d)])) l (.lst [])) b (.ins C dx [(Str.ofString "combs",V.ref d),(Str.ofString "past",V.ref l)]) l=some (.lst []):=by
   rw [zah (Ne.symm hbl),zaf]
  have off:∀ a o,H a=some o->a≠b->upd (upd (upd (upd H d (.dK [])) b (.ins C dx [(Str.ofString "combs",V.ref d)])) l (.lst [])) b (.ins C dx [(Str.ofString "combs",V.ref d),(Str.ofString "past",V.ref l)]) a=some o:=fun a o e n=>by
   rw [zah n,zah (zaq e hln),zah n,zah (zaq e nd)]; exact e
  generalize upd (upd (upd (upd H d (.dK [])) b (.ins C dx [(Str.ofString "combs",V.ref d)])) l (.lst [])) b (.ins C dx [(Str.ofString "combs",V.ref d),(Str.ofString "past",V.ref l)])=H3 at hb3 hd3 hl3 off
  refine q H3 l d ⟨fun a o e n _=>off a o e n,fun a h => ?_,fun a g => .inr (by rw [g]; exact nd)⟩ hln nd ⟨fun x g => ?_,hbd,fun z=>hdl z.symm,⟨dx,d,hb3,rfl,[],hd3,.nil⟩,⟨[],hl3,.nil⟩,good_nil,by simp,by decide⟩
  ·by_cases z:a=b
   ·rw [z,hb3]; simp
   ·cases e:H a with
    | none=>exact absurd e h
    | some o=>rw [off a o e z]; simp
  ·rw [show x=d from g,hd3]; simp
noncomputable def sp_set (ea:Nat->Addr) (C:Addr):Sp:=fun vs H Q E=>∃ b l G cs past x a ts,vs = [.ref b,.str x,.ref a]/\Bk C G H b l cs past/\SqL K H a (ts.map V.int)/\areTeeth ts=true/\isName x=true/\(cs.length < 8\/(cGet cs x).isSome=true)/\Deed ea C G H b l cs past Q E (full past (cPut cs x (canon ts)))
theorem zbO:FnScope ["self","name","teeth","combs"] ["self","name","teeth"] (defScope s_Book_set_comb):=⟨rfl,rfl,rfl,by decide +kernel,rfl,by decide +kernel,by decide +kernel⟩
theorem ok_set {ea:Nat->Addr} {C:Addr} (D:MethAt K C "Book" "set_comb" s_Book_set_comb) (T:Bn mg) (BA:BookAt K C) (M_do_deed:Method P w K mg base C "do_deed" (CX1 P w) 1 ["self","combs"] (sp_do ea C)):Method P w K mg base C "set_comb" (CX1 P w) 2 ["self","name","teeth"] (sp_set (K:=K) ea C):=by
 refine D.meth1 zbO (fun _ _ _ _ _ _=>ln3 fun _ _ _=>rfl) (fun vs H Q E h => ?_) (fun f cdv A outer s H vs Q E hr h => ?_)
 ·obtain ⟨b,l,G,cs,past,x,a,ts,rfl,_⟩:=h
  rfl
 ·obtain ⟨b,l,G,cs,past,x,a,ts,rfl,B,ha,ht,hx,hn,q⟩:=h
  have S:=zbO
  have hu:=zdc hr
  have B_cls:=BA.cls
  obtain ⟨t0,tn,tr⟩:=teeth_iff.mp ht
  obtain ⟨dx,d,hb,gd,kvs,hd,kr⟩:=id B.ins
  refine ⟨_,zad (zan (i:=3) S.nd rfl (Or.inl rfl) (zcw call_dictD rfl T.n_dict boot_dict (zaa (zbW (pv 0) rfl) zac)))
  (zad (zd0 hu (pv 3) (pv 1) (zai call_sortedI rfl T.n_sorted boot_sorted (zaa (pv 2) zac)) rfl)
  (zag (zaj (ze0 (pv 0) B_cls M_do_deed (hr.mono (by decide)) (by first | exact zdn | exact zat | exact zbg | exact zaz) (zaa (pv 3) zac))))),?_⟩
  refine ⟨_,rfl,_,_,_,_,_,rfl,hb,BA.cls,BA.nc,zbH,d,kvs,rfl,.inl hd,fun p np => ?_⟩
  have s1:Same H (upd H p (.dK kvs)):=Same.new np
  refine ⟨_,rfl,a,ts,rfl,s1.seq ha,?_,fun r ns nr hp hs => ?_⟩
  ·have:=teeth_len tn tr
   omega
  have hc:=zfP hp hs tn tr
  subst hc
  have npr:p≠r:=fun z=>by rw [<- z,zaf] at nr; cases nr
  have hr0:H r=none:=s1.free nr
  have s2:Same H (upd (upd H p (.dK kvs)) r (.lst ((canon ts).map V.int))):=s1.put hr0
  have hp2:upd (upd H p (.dK kvs)) r (.lst ((canon ts).map V.int)) p=some (.dK kvs):=by rw [zah npr,zaf]
  have hkl:kvs.length < sizeLine:=by
   have:=kr.length
   have:=B.good.len
   exact Nat.lt_of_lt_of_le (by omega:kvs.length < 1000) zby
  refine ⟨_,rfl,_,rfl,p,_,rfl,DPut.k (k:=Sum.inr x) hp2 hkl,?_⟩
  have s3:Same H (upd (upd (upd H p (.dK kvs)) r (.lst ((canon ts).map V.int))) p (.dK (putK kvs (Sum.inr x) (.ref r)))):=s2.put np
  have hr3:upd (upd (upd H p (.dK kvs)) r (.lst ((canon ts).map V.int))) p (.dK (putK kvs (Sum.inr x) (.ref r))) r=some (.lst ((canon ts).map V.int)):=by rw [zah (Ne.symm npr),zaf]
  have hp3:upd (upd (upd H p (.dK kvs)) r (.lst ((canon ts).map V.int))) p (.dK (putK kvs (Sum.inr x) (.ref r))) p=some (.dK (putK kvs (Sum.inr x) (.ref r))):=zaf
  generalize upd (upd (upd H p (.dK kvs)) r (.lst ((canon ts).map V.int))) p (.dK (putK kvs (Sum.inr x) (.ref r)))=H3 at s3 hr3 hp3
  have B3:=B.same s3
  obtain ⟨lb,ll⟩:=B.liveB
  refine ⟨_,rfl,b,dx,_,rfl,s3 _ _ hb,rfl,_,rfl,b,l,G,cs,past,p,fun a=>G a\/a=p\/a=r,cPut cs x (canon ts),rfl,B3,⟨.inr (.inl rfl),_,hp3,?_⟩,B.good.put hx (gt_canon t0) hn,?_,?_⟩
  ·exact (kr.mono (fun a o _ e=>s3 a o e) fun _ g => .inl g).put hr3 (.inr (.inr rfl))
  ·rintro y (g | g | g)
   ·exact ⟨fun z=>B.nb (z ▸ g),fun z=>B.nl (z ▸ g),B3.live y g⟩
   ·subst g
    exact ⟨fun z=>lb (z ▸ np),fun z=>ll (z ▸ np),by rw [hp3]; simp⟩
   ·subst g
    exact ⟨fun z=>lb (z ▸ hr0),fun z=>ll (z ▸ hr0),by rw [hr3]; simp⟩
  ·unfold full at q
   by_cases h3:300<=past.length
   ·rw [if_pos h3] at q ⊢
    exact q H3 s3
   ·rw [if_neg h3] at q ⊢
    intro H4 off B4
    refine q H4 _ ⟨fun a o e n1 n2=>(off a n1 n2).trans (s3 a o e),fun a h => ?_,fun a g => ?_⟩ B4
    ·obtain ⟨lb4,ll4⟩:=B4.liveB
     by_cases z:a=b
     ·rw [z]; exact lb4
     ·by_cases z2:a=l
      ·rw [z2]; exact ll4
      ·rw [off a z z2]; exact zeB s3 a h
    ·rcases g with g | g | g | g
     ·exact .inl g
     ·exact .inl g
     ·rw [g]; exact .inr np
     ·rw [g]; exact .inr hr0
noncomputable def sp_put (ea:Nat->Addr) (C:Addr):Sp:=fun vs H Q E=>∃ b l G cs past x a ts,vs = [.ref b,.str x,.ref a]/\Bk C G H b l cs past/\SqL K H a (ts.map V.int)/\x.length<=sizeLine/\ts.length<=1000/\Deed ea C G H b l cs past Q E (putD cs past x ts)
theorem zc0:FnScope ["self","name","teeth"] ["self","name","teeth"] (defScope s_Book_put):=⟨rfl,rfl,rfl,by decide +kernel,rfl,by decide +kernel,by decide +kernel⟩
theorem ok_put {ea:Nat->Addr} {C:Addr} (D:MethAt K C "Book" "put" s_Book_put) (T:Bn mg) (BA:BookAt K C) (V_MOST_COMBS:∃ t,mg "MOST_COMBS" = some (.int 8 t)) (O_BadName:Err K mg "BadName" (ea 0)) (O_BadTeeth:Err K mg "BadTeeth" (ea 1)) (O_NameTaken:Err K mg "NameTaken" (ea 2)) (O_BookFull:Err K mg "BookFull" (ea 3))
  (C_is_name:Callee P w K mg base "is_name" 2 ["text"] sp_name) (C_are_teeth:Callee P w K mg base "are_teeth" 1 ["teeth"] (sp_teeth K)) (M_set_comb:Method P w K mg base C "set_comb" (CX1 P w) 2 ["self","name","teeth"] (sp_set (K:=K) ea C)):Method P w K mg base C "put" (CX1 P w) 3 ["self","name","teeth"] (sp_put (K:=K) ea C):=by
 refine D.meth1 zc0 (fun _ _ _ _ _ _=>ln3 fun _ _ _=>rfl) (fun vs H Q E h => ?_) (fun f cdv A outer s H vs Q E hr h => ?_)
 ·obtain ⟨b,l,G,cs,past,x,a,ts,rfl,_⟩:=h
  rfl
 ·obtain ⟨b,l,G,cs,past,x,a,ts,rfl,B,ha,hxl,htl,q⟩:=h
  have S:=zc0
  have hu:=zdc hr
  have B_cls:=BA.cls
  unfold putD at q
  refine ⟨_,zad (zaM (zbn (zbQ (zaK C_is_name (hr.mono (by decide)) rfl (zaa (pv 1) zac))))
   (zag (zbb O_BadName rfl (zaa (zas) zac)))
   (zao))
  (zad (zaM (zbn (zbQ (zaK C_are_teeth (hr.mono (by decide)) rfl (zaa (pv 2) zac))))
   (zag (zbb O_BadTeeth rfl (zaa (zas) zac)))
   (zao))
  (zad (zaM (zgb (zg2 hu (pv 1) (zbW (pv 0) rfl)))
   (zag (zbb O_NameTaken rfl (zaa (zas) zac)))
   (zao))
  (zad (zaM (zar zhB (zai call_lenD rfl T.n_len PySem.boot_len (zaa (zbW (pv 0) rfl) zac)) (zbG rfl V_MOST_COMBS) (zaw _))
   (zag (zbb O_BookFull rfl (zaa (zas) zac)))
   (zao))
  (zag (zaj (ze0 (pv 0) B_cls M_set_comb (hr.mono (by decide)) (by first | exact zdn | exact zat | exact zbg | exact zaz) (zaa (pv 1) (zaa (pv 2) zac)))))))),?_⟩
  refine ⟨_,rfl,x,rfl,hxl,fun H1 s1=>⟨_,rfl,?_⟩⟩
  cases e1:isName x with
  | false =>
   rw [e1,if_pos rfl] at q
   exact iteT ⟨bigr rfl,q H1 s1⟩
  | true =>
   rw [e1,if_neg (by decide)] at q
   refine iteF ?_
   refine ⟨_,rfl,a,ts,rfl,s1.seq ha,htl,fun H2 s2=>⟨_,rfl,?_⟩⟩
   have s12:=s1.trans s2
   cases e2:areTeeth ts with
   | false =>
    rw [e2,if_pos rfl] at q
    exact iteT ⟨bigr rfl,q H2 s12⟩
   | true =>
    rw [e2,if_neg (by decide)] at q
    refine iteF ?_
    have B2:=B.same s12
    obtain ⟨dx,d,hb,gd,kvs,hd,kr⟩:=id B2.ins
    refine ⟨_,rfl,_,rfl,_,_,_,_,_,rfl,hb,BA.cls,BA.nc,zbH,d,_,rfl,DGet.k (k:=Sum.inr x) hd,_,rfl,?_⟩
    rw [kr.some]
    cases e3:(cGet cs x).isSome with
    | true =>
     rw [e3,if_pos rfl] at q
     exact iteT ⟨bigr rfl,q H2 s12⟩
    | false =>
     rw [e3,if_neg (by decide)] at q
     refine iteF ?_
     refine ⟨_,rfl,_,_,_,_,_,rfl,hb,BA.cls,BA.nc,zbH,_,_,rfl,hd,_,_,rfl,rfl,_,rfl,?_⟩
     rw [kr.length]
     refine ite2 (fun hc => ?_) (fun hc => ?_)
     ·have h8:8<=cs.length:=by
       have:(8:Int)<=(cs.length:Int):=by simpa using hc
       omega
      rw [if_pos h8] at q
      exact ⟨bigr rfl,q H2 s12⟩
     ·have h8:¬ 8<=cs.length:=by
       have:¬ (8:Int)<=(cs.length:Int):=by simpa using hc
       omega
      rw [if_neg h8] at q
      exact ⟨_,rfl,b,dx,_,rfl,hb,rfl,_,rfl,_,rfl,b,l,G,cs,past,x,a,ts,rfl,B2,s12.seq ha,e2,e1,.inl (by omega),q.from s12⟩
noncomputable def worths:List Int := [1,2,4,8,16,32,64,128]
theorem at_worths {t:Int} (h0:0<=t) (h7:t<=7):atI (worths.map V.int) t=some (.int (pw t)):=by
 have:t=0\/t=1\/t=2\/t=3\/t=4\/t=5\/t=6\/t=7:=by omega
 rcases this with h | h | h | h | h | h | h | h <;> subst h <;> rfl
noncomputable def sp_worth (K:W.Frag):Sp:=fun vs H Q _=>∃ (a:Addr) (ts:List Int),vs = [.ref a]/\SqL K H a (ts.map V.int)/\(∀ t∈ts,0<=t/\t<=7)/\ts.length<=1000/\∀ H',Same H H'->Q (.int (worth ts)) H'
theorem zb9:FnScope ["teeth"] ["teeth"] (defScope s_teeth_worth):=⟨rfl,rfl,rfl,by decide +kernel,rfl,by decide +kernel,by decide +kernel⟩
theorem ok_worth {tw:Addr} (D:DefAt K mg "teeth_worth" s_teeth_worth) (T:Bn mg) (G_TOOTH_WORTH:mg "TOOTH_WORTH" = some (.ref tw)) (HTW:∀ H,SqT K H tw (worths.map V.int)):Callee P w K mg base "teeth_worth" 1 ["teeth"] (sp_worth K):=by
 refine D.callee zb9 (fun _ _ _ _ _ _=>ln1 fun _=>rfl) (fun vs H Q E h => ?_) (fun f cdv A outer s H vs Q E hr h => ?_)
 ·obtain ⟨a,ts,rfl,_⟩:=h
  rfl
 ·obtain ⟨a,ts,rfl,ha,hr7,hl,q⟩:=h
  have S:=zb9
  refine ⟨_,zag (zaj (zai (zeP rfl) rfl T.n_sum boot_sum (zaa (za2 (own := ["tooth"]) (caps := []) rfl ⟨rfl,rfl,rfl,rfl,trivial⟩ (zav (pv 0)) (fun _ _ _ _ _ _=>zam (i:=0) (zaT (by decide +kernel)) rfl (Or.inl rfl)) (fun _ _ _ _ _ _=>zbi) (fun _ _ _ _ _ _=>zaC (zeb K rfl) (zbk rfl G_TOOTH_WORTH) (pv 0) (fun _ _=>rfl))) zac))),?_⟩
  refine ⟨_,rfl,_,rfl,⟨_,ha⟩,fun D hD => ?_⟩
  refine zcA (capv := []) (L:=ts.map V.int) (by rfl) (zak K a (ts.map V.int)) (by rw [List.length_map]; exact big hl) hD ?_ (fun _=>true) (fun v=>match v with | .int t => .int (pw t) | _ => .non) ?_ ?_ ?_
  ·exact fun H' s'=>s'.seq ha
  ·exact fun v hv H' R s' h=>h H' (Same.refl _)
  ·intro v hv _ H' R s' h
   obtain ⟨t,ht,rfl⟩:=List.mem_map.mp hv
   have h:R (.int (pw t)) H':=h H' (Same.refl _)
   obtain ⟨h0,h7⟩:=hr7 t ht
   exact ⟨_,rfl,_,_,_,_,rfl,rfl,HTW H',at_worths h0 h7,h⟩
  ·intro H' s' e
   refine ⟨_,ts.map pw,rfl,?_,q H' s'⟩
   refine SqL.of ?_
   rw [e]
   congr 2
   rw [List.filter_eq_self.mpr (fun _ _=>rfl),List.map_map,List.map_map]
   rfl
noncomputable def sp_steps (ea:Nat->Addr) (C:Addr):Sp:=fun vs H Q E=>∃ b l G cs past n,vs = [.ref b,.int n]/\Bk C G H b l cs past /\
 (if 0<=n/\n < 128 then ∀ p H' ws,Same H H'->H p=none->H' p=some (.lst ws)->(∀ nm:List Str,nm.Perm (cs.map (·.1))->sortedS nm=true->StepsR H' ws (stepsOf (byNames cs nm) n))->Q (.ref p) H' else E (.ref (ea 11)) none H)
theorem zca:FnScope ["book","shape","steps","name","worth"] ["book","shape"] (defScope s_shape_steps):=⟨rfl,rfl,rfl,by decide +kernel,rfl,by decide +kernel,by decide +kernel⟩
theorem ok_steps {ea:Nat->Addr} {C:Addr} (D:DefAt K mg "shape_steps" s_shape_steps) (T:Bn mg) (BA:BookAt K C) (V_SHAPES:∃ t,mg "SHAPES" = some (.int 128 t)) (O_BadShape:Err K mg "BadShape" (ea 11)) (C_teeth_worth:Callee P w K mg base "teeth_worth" 1 ["teeth"] (sp_worth K))
  (M_names:Method P w K mg base C "names" CX0 1 ["self"] (sp_names C)) (M_teeth:Method P w K mg base C "teeth" (CX1 P w) 2 ["self","name"] (sp_bteeth ea C)):Callee1 P w K mg base "shape_steps" 3 ["book","shape"] (sp_steps ea C):=by
 refine D.callee1 zca (fun _ _ _ _ _ _=>ln2 fun _ _=>rfl) (fun vs H Q E h => ?_) (fun f cdv A outer s H vs Q E hr h => ?_)
 ·obtain ⟨b,l,G,cs,past,n,rfl,_⟩:=h
  rfl
 ·obtain ⟨b,l,G,cs,past,n,rfl,B,q⟩:=h
  have S:=zca
  have hu:=zdc hr
  have B_cls:=BA.cls
  refine ⟨_,zad (zaM (zbn (zcU zdo zhA (zab) (pv 1) (zbG rfl V_SHAPES)))
   (zag (zbb O_BadShape rfl (zaa (zas) zac)))
   (zao))
  (zad (zaM (zar zb6 (zax zbl (pv 1) (zab)) (zab) (zaw _))
   (zag (zaj (zaU (zaa (zbR (zaa (zas) (zaa (zax zcd (pv 1) (zab)) zac))) zac))))
   (zao))
  (zad (zan (i:=2) S.nd rfl (Or.inl rfl) (zaU (zac)))
  (zad (zaY PassesOwn.leaving rfl (zav (pe_mt0 (pv 0) B_cls M_names (hr.mono (by decide)) (by first | exact zdn | exact zat | exact zbg | exact zaz))) (zam (i:=3) S.nd rfl (Or.inl rfl))
   (zad (zan (i:=4) S.nd rfl (Or.inl rfl) (zaK C_teeth_worth (hr.mono (by decide)) rfl (zaa (ze0 (pv 0) B_cls M_teeth (hr.mono (by decide)) (by first | exact zdn | exact zat | exact zbg | exact zaz) (zaa (pv 3) zac)) zac)))
   (zag (zaM (zar zb6 (zax zg4 (pv 1) (pv 4)) (zab) (zaw _))
    (zag (zaS (zdm PySem.F.plainAttrs_list PySem.F.slot_list_append PySem.F.type_list_append zaW (pv 2) (zaa (zbR (zaa (pv 3) (zaa (zax zcd (zax zbp (pv 1) (pv 4)) (zab)) zac))) zac))))
    (zao)))))
  (zag (zaj (pv 2)))))),?_⟩
  refine ⟨_,rfl,_,_,rfl,rfl,_,rfl,?_⟩
  refine ite2 (fun h0 => ?_) (fun h0 => ?_)
  rotate_left
  ·have h0:¬ (0:Int)<=n:=by simpa using h0
   rw [if_neg (fun z=>h0 z.1)] at q
   exact ⟨_,rfl,iteT ⟨bigr rfl,q⟩⟩
  have h0:(0:Int)<=n:=by simpa using h0
  refine ⟨_,_,rfl,rfl,_,rfl,?_⟩
  by_cases h1:n < 128
  case neg =>
   rw [if_neg (fun z=>h1 z.2)] at q
   rw [decide_eq_false h1]
   exact iteT ⟨bigr rfl,q⟩
  rw [if_pos ⟨h0,h1⟩] at q
  rw [decide_eq_true h1]
  refine iteF ?_
  have p2:(0:Int) < 2:=by decide
  refine ⟨_,rfl,_,_,rfl,rfl,p2,rfl,_,rfl,?_⟩
  refine ite2 (fun hc => ?_) (fun hc => ?_)
  ·have hc:n % 2=1:=by simpa using hc
   refine ⟨_,rfl,_,_,rfl,rfl,⟨p2,by decide⟩,bigr rfl,fun t nt=>⟨bigr rfl,fun p np => ?_⟩⟩
   have s1:Same H (upd H t (.tup [.str "",.int (n / 2)])):=Same.new nt
   refine q p _ [.ref t] (s1.trans (Same.new np)) (s1.free np) zaf fun nm _ _ => ?_
   rw [zcn hc]
   refine ⟨⟨t,rfl,?_⟩,trivial⟩
   rw [zah (fun z=>by rw [<- z,zaf] at np; cases np)]
   exact zaf
  ·have hc:¬ n % 2=1:=by simpa using hc
   refine ⟨bigr rfl,fun pl npl => ?_⟩
   have s1:Same H (upd H pl (.lst [])):=Same.new npl
   obtain ⟨dx,d,hb,_⟩:=id (B.same s1).ins
   refine ⟨_,rfl,b,dx,_,rfl,hb,rfl,b,l,G,cs,past,rfl,B.same s1,fun pn nm npn hnp hns=>⟨_,rfl,⟨_,SqL.of zaf⟩,?_⟩⟩
   have nlp:pn≠pl:=fun z=>by rw [z,zaf] at npn; cases npn
   have s2:Same H (upd (upd H pl (.lst [])) pn (.lst (nm.map V.str))):=s1.trans (Same.new npn)
   have hnl:nm.length<=8:=by
    have:=hnp.length_eq
    rw [List.length_map] at this
    have:=B.good.len
    omega
   refine zbz (zak K pn (nm.map V.str)) (fun i σ Hx=>Same H Hx/\Hx pn=some (.lst (nm.map V.str))/\∃ ws x3 x4,σ = [some (.ref b),some (.int n),some (.ref pl),x3,x4]/\Hx pl=some (.lst ws)/\ws.length<=i/\StepsR Hx ws (stepsOf (byNames cs (nm.take i)) n)) ⟨s2,zaf,[],_,_,rfl,(by rw [zah nlp.symm]; exact zaf),Nat.le_refl _,?_⟩ (fun i σ Hx _ h=>SqL.of h.2.1) ?_ ?_
   ·rw [List.take_zero]
    show StepsR _ [] (stepsOf [] n)
    rw [steps_nil hc]
    trivial
   ·rintro i x σ Hx hx ⟨sx,hpn,ws,x3,x4,rfl,hpl,hwl,hst⟩
    rw [List.getElem?_map] at hx
    cases hk:nm[i]? with
    | none=>rw [hk] at hx; cases hx
    | some y =>
     rw [hk] at hx
     cases hx
     have hi:i < nm.length:=(List.getElem?_eq_some_iff.mp hk).1
     have hy:y∈cs.map (·.1):=hnp.mem_iff.mp (List.mem_of_getElem? hk)
     cases hts:cGet cs y with
     | none=>exact absurd hy (get_none.mp hts)
     | some ts =>
      have gts:GT ts:=(B.good.ok _ (zee hts)).2
      obtain ⟨dx2,d2,hb2,_⟩:=id (B.same sx).ins
      refine ⟨_,rfl,b,dx2,_,rfl,hb2,rfl,_,rfl,b,l,G,cs,past,y,rfl,B.same sx,?_⟩
      rw [hts]
      intro p3 np3
      refine ⟨p3,ts,rfl,SqL.of zaf,zdp gts,by have:=zg9 gts; omega,fun H4 s4 => ?_⟩
      have s34:Same Hx H4:=(Same.new np3).trans s4
      have eN:byNames cs (nm.take (i + 1))=byNames cs (nm.take i) ++ [(y,ts)]:=by
       rw [zaE hk,byNames_snoc hts]
      refine ⟨_,rfl,_,rfl,_,_,rfl,rfl,rfl,_,rfl,?_⟩
      refine ite2 (fun hz => ?_) (fun hz => ?_)
      ·have hz:Builtin.bitAnd n (worth ts)=0:=by simpa using hz
       refine ⟨_,rfl,.inl ⟨rfl,_,SqL.of (s34 _ _ hpl)⟩,_,rfl,_,rfl,_,rfl,_,_,rfl,rfl,_,_,rfl,rfl,⟨p2,by decide⟩,bigr rfl,fun t nt => ?_⟩
       have s5:Same Hx (upd H4 t (.tup [.str y,.int ((n + worth ts) / 2)])):=s34.trans (Same.new nt)
       have nplt:t≠pl:=fun z=>by rw [z,s34 _ _ hpl] at nt; cases nt
       refine ⟨pl,_,_,rfl,rfl,s5 _ _ hpl,Nat.lt_of_lt_of_le (by omega:ws.length < 1000) zby,?_⟩
       refine ⟨(sx.trans s5).put npl,(by rw [zah nlp]; exact s5 _ _ hpn),_,_,_,rfl,zaf,(by rw [List.length_append,List.length_singleton]; omega),?_⟩
       rw [eN,zdu hc,if_pos hz]
       refine StepsR.snoc ?_ (hst.mono fun q' xs hq' => ?_)
       ·rw [zah nplt]; exact zaf
       ·have:q'≠pl:=fun z=>by rw [z,hpl] at hq'; cases hq'
        rw [zah this]; exact s5 _ _ hq'
      ·have hz:¬ Builtin.bitAnd n (worth ts)=0:=by simpa using hz
       refine ⟨sx.trans s34,s34 _ _ hpn,ws,_,_,rfl,s34 _ _ hpl,by omega,?_⟩
       rw [eN,zdu hc,if_neg hz,List.append_nil]
       exact hst.mono fun q' xs hq'=>s34 _ _ hq'
   ·rintro σ Hx ⟨sx,hpn,ws,x3,x4,rfl,hpl,hwl,hst⟩
    rw [List.length_map,List.take_length] at hst
    refine ⟨_,rfl,q pl Hx ws sx npl hpl fun nm' hp' hs' => ?_⟩
    rw [strs_same (hp'.trans hnp.symm) hs' hns]
    exact hst
noncomputable def TabR (H:Hp) (ts:List V) (C:Combs):Prop:=ts.length=128/\∀ s:Nat,s < 128->∃ q ws,ts[s]?=some (.ref q)/\H q=some (.lst ws)/\StepsR H ws (stp C s)
theorem TabR.same {H H':Hp} {ts:List V} {C:Combs} (t:TabR H ts C) (s:Same H H'):TabR H' ts C :=
 ⟨t.1,fun i h=>let ⟨q,ws,a,b,c⟩:=t.2 i h; ⟨q,ws,a,s _ _ b,c.mono fun _ _ e=>s _ _ e⟩⟩
noncomputable def sp_table (C:Addr):Sp:=fun vs H Q _=>∃ b l G cs past,vs = [.ref b]/\Bk C G H b l cs past/\∀ p H' ts,Same H H'->H p=none->H' p=some (.lst ts)->TabR H' ts (srt cs)->Q (.ref p) H'
theorem zcq:FnScope ["book"] ["book"] (defScope s_step_table):=⟨rfl,rfl,rfl,by decide +kernel,rfl,by decide +kernel,by decide +kernel⟩
theorem ok_table {ea:Nat->Addr} {C:Addr} (D:DefAt K mg "step_table" s_step_table) (T:Bn mg) (V_SHAPES:∃ t,mg "SHAPES" = some (.int 128 t)) (C_shape_steps:Callee1 P w K mg base "shape_steps" 3 ["book","shape"] (sp_steps ea C)):Callee1 P w K mg base "step_table" 4 ["book"] (sp_table C):=by
 refine D.callee1 zcq (fun _ _ _ _ _ _=>ln1 fun _=>rfl) (fun vs H Q E h => ?_) (fun f cdv A outer s H vs Q E hr h => ?_)
 ·obtain ⟨b,l,G,cs,past,rfl,_⟩:=h
  rfl
 ·obtain ⟨b,l,G,cs,past,rfl,B,q⟩:=h
  have S:=zcq
  refine ⟨_,zag (zaj (za2 (own := ["shape"]) (caps := [(0,"book")]) rfl ⟨rfl,rfl,rfl,rfl,⟨⟨rfl,rfl,.inl rfl⟩,trivial⟩⟩ (zbo rfl T.n_range (zaa (zbG rfl V_SHAPES) zac)) (fun _ _ _ _ _ _=>zam (i:=0) (zaT (by decide +kernel)) rfl (Or.inl rfl)) (fun _ _ _ _ _ _=>zbi) (fun _ _ _ _ _ _=>zbf C_shape_steps (hr.mono (by decide)) (by first | exact zat | exact zbg | exact zaz) rfl (zaa (pv 1) (zaa (pv 0) zac))))),?_⟩
  refine ⟨_,rfl,by decide,by decide,fun D hD => ?_⟩
  refine zhg (capv := [some (.ref b)]) (by rfl) (zaO 0 (128:Int).toNat) (by rw [zbC]; exact big (by decide)) hD (fun _ _=>trivial) (fun _=>true) (fun H i v=>∃ (q:Addr) (ws:List V),v = .ref q/\H q=some (.lst ws)/\StepsR H ws (stp (srt cs) i)) ?_ ?_ (fun i x hx H R s' h=>h H (Same.refl _)) ?_ ?_
  ·rintro H H' i v s' ⟨qa,ws,e2,e3,e4⟩
   exact ⟨qa,ws,e2,s' _ _ e3,e4.mono fun _ _ e=>s' _ _ e⟩
  ·rintro H i v l' l'' hv hH ⟨qa,ws,e2,e3,e4⟩
   subst e2
   have hne:qa≠D:=fun z=>hv (by rw [z])
   refine ⟨qa,ws,rfl,(by rw [zah hne]; exact e3),e4.mono fun q' xs e => ?_⟩
   rw [zah (fun z=>by rw [z,hH] at e; cases e)]
   exact e
  ·intro i x hx _ H' R s' hDn h
   obtain ⟨hi,rfl⟩:=zbm hx
   rw [Int.zero_add]
   refine ⟨_,rfl,_,rfl,b,l,G,cs,past,((i:Nat):Int),rfl,B.same s',?_⟩
   rw [if_pos ⟨by omega,by have:i < 128:=hi; omega⟩]
   intro p H2 ws s2 np hp st
   exact h H2 _ s2 (fun z=>hDn (by injection z with z; rw [<- z]; exact np)) ⟨p,ws,rfl,hp,st _ (ze1 cs) (zey cs)⟩
  ·intro H' ys s' hD' pr
   rw [zbC,List.filter_eq_self.mpr (fun _ _=>rfl)] at pr
   refine q _ H' ys s' hD hD' ⟨by rw [<- Paired.length pr,List.length_range]; rfl,fun i hi => ?_⟩
   obtain ⟨y,ey,_,qa,ws,rfl,e3,e4⟩:=Paired.at pr (List.getElem?_range (show i < (128:Int).toNat from hi))
   exact ⟨qa,ws,ey,e3,e4⟩
noncomputable def sp_behind:Sp:=fun vs H Q _=>∃ (a l:Addr) (ts:List V) (C:Combs) (ns:List Nat),vs = [.ref a,.ref l]/\H a=some (.lst ts)/\TabR H ts C/\GC C/\C.length<=8/\H l=some (.lst (ns.map fun s=>V.int (s:Nat)))/\(∀ s∈ns,s < 128)/\ns.length<=128/\∀ p H',Same H H'->H p=none->H' p=some (.lst ((behN C ns).map fun s=>V.int (s:Nat)))->Q (.ref p) H'
theorem zbL:FnScope ["table","shapes","reached","shape","step"] ["table","shapes"] (defScope s_shapes_behind):=⟨rfl,rfl,rfl,by decide +kernel,rfl,by decide +kernel,by decide +kernel⟩
theorem ok_behind (D:DefAt K mg "shapes_behind" s_shapes_behind) (T:Bn mg):Callee P w K mg base "shapes_behind" 1 ["table","shapes"] sp_behind:=by
 refine D.callee zbL (fun _ _ _ _ _ _=>ln2 fun _ _=>rfl) (fun vs H Q E h => ?_) (fun f cdv A outer s H vs Q E hr h => ?_)
 ·obtain ⟨a,l,ts,C,ns,rfl,_⟩:=h
  rfl
 ·obtain ⟨a,l,ts,C,ns,rfl,ha,tb,gc,h8,hl,hlt,hnl,q⟩:=h
  have S:=zbL
  have hu:=zdc hr
  refine ⟨_,zad (zan (i:=2) S.nd rfl (Or.inl rfl) (zd1))
  (zad (zaY PassesOwn.never rfl (zav (pv 1)) (zam (i:=3) S.nd rfl (Or.inl rfl))
   (zag (zaY PassesOwn.never rfl (zav (zaC zaI (pv 0) (pv 3) (fun _ _=>rfl))) (zam (i:=4) S.nd rfl (Or.inl rfl))
    (zag (zd0 hu (pv 2) (zaC za5 (pv 4) (zab) (fun _ _=>rfl)) (zb5) rfl)))))
  (zag (zaj (zai (call_sortedDI rfl) rfl T.n_sorted boot_sorted (zaa (pv 2) zac))))),?_⟩
  refine fun d nd => ?_
  have s1:Same H (upd H d (.dK [])):=Same.new nd
  refine ⟨_,rfl,_,rfl,⟨_,SqL.of (s1 _ _ hl)⟩,?_⟩
  refine zbz (zak K l _) (fun i σ Hx=>Same H Hx/\∃ kvs rs x3 x4,σ = [some (.ref a),some (.ref l),some (.ref d),x3,x4]/\Hx d=some (.dK kvs)/\kvs.map (·.1)=rs.map Sum.inl/\rs.Nodup/\kvs.length<=8 * i/\∀ n:Int,n∈rs ↔ ∃ t∈ns.take i,∃ p∈stp C t,p.2=n) ⟨s1,[],[],_,_,rfl,zaf,rfl,List.nodup_nil,Nat.zero_le _,fun n=>by simp⟩ (fun i σ Hx _ h=>SqL.of (h.1 _ _ hl)) ?_ ?_
  ·rintro i x σ Hx hx ⟨sx,kvs,rs,x3,x4,rfl,hd,hk,rn,hkl,hm⟩
   rw [List.getElem?_map] at hx
   cases ht:ns[i]? with
   | none=>rw [ht] at hx; cases hx
   | some t =>
    rw [ht] at hx
    cases hx
    have hti:i < ns.length:=(List.getElem?_eq_some_iff.mp ht).1
    have t128:=hlt t (List.mem_of_getElem? ht)
    obtain ⟨qs,wss,e1,e2,e3⟩:=(tb.same sx).2 t t128
    have hwl:=e3.length
    have hw8:=zdV h8 t
    refine ⟨_,rfl,_,rfl,_,_,_,_,rfl,rfl,SqL.of (sx _ _ ha),zay e1,_,rfl,⟨_,SqL.of e2⟩,?_⟩
    have ek:ns.take (i + 1)=ns.take i ++ [t]:=zaE ht
    refine zbz (zak K qs wss) (fun j σ Hy=>Same Hx (upd Hy d (.dK kvs))/\Same H Hy/\(∀ q o,q≠d->Hx q=some o->Hy q=some o)/\∃ kvs' rs' x4,σ = [some (.ref a),some (.ref l),some (.ref d),some (.int (t:Nat)),x4]/\Hy d=some (.dK kvs')/\kvs'.map (·.1)=rs'.map Sum.inl/\rs'.Nodup/\kvs'.length<=8 * i + j/\∀ n:Int,n∈rs' ↔ (∃ t∈ns.take i,∃ p∈stp C t,p.2=n)\/∃ p∈(stp C t).take j,p.2=n) ⟨?_,sx,fun _ _ _ e=>e,kvs,rs,_,rfl,hd,hk,rn,by omega,fun n=>by rw [hm]; simp⟩ (fun j σ Hy _ h=>SqL.of (h.2.2.1 _ _ (fun z=>by rw [z,hd] at e2; cases e2) e2)) ?_ ?_
    ·intro q o e
     by_cases z:q=d
     ·rw [z,zaf,<- hd,<- z,e]
     ·rw [zah z]; exact e
    ·rintro j y σ Hy hy ⟨s0,sy,ky,kvs',rs',x4',rfl,hd',hk',rn',hkl',hm'⟩
     have hj:j < (stp C t).length:=by rw [<- hwl]; exact (List.getElem?_eq_some_iff.mp hy).1
     obtain ⟨qa,e4,e5⟩:=e3.get (List.getElem?_eq_getElem hj)
     rw [hy] at e4
     cases e4
     have e5':=ky _ _ (fun z=>by rw [z,hd] at e5; cases e5) e5
     refine ⟨_,rfl,_,rfl,_,_,_,_,rfl,rfl,SqT.of e5',at1,_,_,rfl,DPut.k (k:=Sum.inl _) hd' (Nat.lt_of_lt_of_le (by omega:kvs'.length < 2000) (by decide)),?_⟩
     refine ⟨?_,sy.put nd,fun q o z e=>(by rw [zah z]; exact ky q o z e),_,if (stp C t)[j].2∈rs' then rs' else rs' ++ [(stp C t)[j].2],_,rfl,zaf,?_,?_,?_,?_⟩
     ·intro q o e
      by_cases z:q=d
      ·rw [z,zaf,<- hd,<- z,e]
      ·rw [zah z,zah z]; exact ky q o z e
     ·rw [putK_keys,hk']
      have:(Sum.inl (stp C t)[j].2:Key)∈rs'.map Sum.inl ↔ (stp C t)[j].2∈rs':=by
       rw [List.mem_map]
       exact ⟨fun ⟨z,hz,e⟩=>by injection e with e; rwa [<- e],fun h=>⟨_,h,rfl⟩⟩
      by_cases z:(stp C t)[j].2∈rs'
      ·rw [if_pos (this.mpr z),if_pos z]
      ·rw [if_neg (fun h=>z (this.mp h)),if_neg z,List.map_append]
       rfl
     ·split
      ·exact rn'
      ·rename_i z
       refine List.nodup_append.mpr ⟨rn',by simp,fun u hu v hv e => ?_⟩
       rw [List.mem_singleton.mp hv] at e
       exact z (e ▸ hu)
     ·have:=zcf kvs' (Sum.inl (stp C t)[j].2:Key) (.bl true)
      omega
     ·intro n
      rw [List.take_succ_eq_append_getElem hj]
      have:n∈(if (stp C t)[j].2∈rs' then rs' else rs' ++ [(stp C t)[j].2]) ↔ n∈rs'\/(stp C t)[j].2=n:=by
       split
       ·rename_i z
        exact ⟨.inl,fun h=>h.elim id fun e=>e ▸ z⟩
       ·rw [List.mem_append,List.mem_singleton]
        exact ⟨fun h=>h.elim .inl fun e => .inr e.symm,fun h=>h.elim .inl fun e => .inr e.symm⟩
      rw [this,hm']
      constructor
      ·rintro ((h | ⟨p,hp,e⟩) | e)
       ·exact .inl h
       ·exact .inr ⟨p,List.mem_append_left _ hp,e⟩
       ·exact .inr ⟨_,List.mem_append_right _ (List.mem_singleton.mpr rfl),e⟩
      ·rintro (h | ⟨p,hp,e⟩)
       ·exact .inl (.inl h)
       ·rcases List.mem_append.mp hp with z | z
        ·exact .inl (.inr ⟨p,z,e⟩)
        ·rw [List.mem_singleton.mp z] at e
         exact .inr e
    ·rintro σ Hy ⟨s0,sy,ky,kvs',rs',x4',rfl,hd',hk',rn',hkl',hm'⟩
     refine ⟨sy,kvs',rs',_,_,rfl,hd',hk',rn',by omega,fun n => ?_⟩
     rw [hm',hwl,List.take_length,ek]
     constructor
     ·rintro (⟨t',ht',p,hp,e⟩ | ⟨p,hp,e⟩)
      ·exact ⟨t',List.mem_append_left _ ht',p,hp,e⟩
      ·exact ⟨t,List.mem_append_right _ (List.mem_singleton.mpr rfl),p,hp,e⟩
     ·rintro ⟨t',ht',p,hp,e⟩
      rcases List.mem_append.mp ht' with z | z
      ·exact .inl ⟨t',z,p,hp,e⟩
      ·rw [List.mem_singleton.mp z] at hp
       exact .inr ⟨p,hp,e⟩
  ·rintro σ Hx ⟨sx,kvs,rs,x3,x4,rfl,hd,hk,rn,hkl,hm⟩
   rw [List.length_map] at hkl hm
   rw [List.take_length] at hm
   have pm:=beh_keys gc hlt rn hm
   have hrl:rs.length<=128:=by
    rw [pm.length_eq,List.length_map]
    exact ze8 C ns
   refine ⟨_,rfl,d,kvs,rs,rfl,.inl hd,hk,by omega,fun p ns' np pp pw => ?_⟩
   have e:=zbF (pp.trans pm) pw (beh_sorted C ns)
   refine q p _ (sx.trans (Same.new np)) (sx.free np) ?_
   rw [zaf,e,List.map_map]
   rfl
theorem zcF {C:Addr} {G:Addr->Prop} {H:Hp} {b l:Addr} {cs:Combs} {past:List Combs} (B:Bk C G H b l cs past):GC (srt cs)/\(srt cs).length<=8:=by
 have g:=B.good
 have p:=zco g.nd
 exact ⟨fun c hc=>(g.ok c (p.mem_iff.mp hc)).2,by rw [p.length_eq]; exact g.len⟩
noncomputable def sp_short:Sp:=fun vs H Q _=>∃ (a:Addr) (ts:List V) (C:Combs),vs = [.ref a]/\H a=some (.lst ts)/\TabR H ts C/\GC C/\C.length<=8/\∀ (t:Nat) (H':Hp),Same H H'->((t=0/\∀ n,1<=n->¬ Fil C n)\/(1<=t/\t<=128/\Fil C t))->Q (.int (t:Nat)) H'
theorem zfD (l:List Nat):(l.map fun s=>V.int (s:Nat))=(l.map fun (s:Nat)=>(s:Int)).map V.int:=by rw [List.map_map]; rfl
theorem in_nats (x:Nat) (l:List Nat):inV (V.int (x:Nat)) (l.map fun s=>V.int (s:Nat))=decide (x∈l):=by
 rw [zfD,in_intS,decide_eq_decide,List.mem_map]
 exact ⟨fun ⟨y,h,e⟩=>by rw [show x=y by omega]; exact h,fun h=>⟨x,h,rfl⟩⟩
theorem zfI (l:List Nat):inV (V.int 0) (l.map fun s=>V.int (s:Nat))=decide (0∈l):=in_nats 0 l
theorem zeL (l:List Nat):(l.map fun s=>V.int (s:Nat)).all flatV=true:=by rw [zfD]; exact zhE _
theorem zbt:FnScope ["table","shapes","length"] ["table"] (defScope s_shortest_length):=⟨rfl,rfl,rfl,by decide +kernel,rfl,by decide +kernel,by decide +kernel⟩
theorem ok_short (D:DefAt K mg "shortest_length" s_shortest_length) (T:Bn mg) (V_SHAPES:∃ t,mg "SHAPES" = some (.int 128 t)) (C_shapes_behind:Callee P w K mg base "shapes_behind" 1 ["table","shapes"] sp_behind):Callee P w K mg base "shortest_length" 2 ["table"] sp_short:=by
 refine D.callee zbt (fun _ _ _ _ _ _=>ln1 fun _=>rfl) (fun vs H Q E h => ?_) (fun f cdv A outer s H vs Q E hr h => ?_)
 ·obtain ⟨a,ts,C,rfl,_⟩:=h
  rfl
 ·obtain ⟨a,ts,C,rfl,ha,tb,gc,h8,q⟩:=h
  have S:=zbt
  refine ⟨_,zad (zan (i:=1) S.nd rfl (Or.inl rfl) (zaU (zaa (zab) zac)))
  (zad (zaY PassesOwn.never rfl (pi_range2 rfl T.n_range (zaa (zab) (zaa (zax zbp (zbG rfl V_SHAPES) (zab)) zac))) (zam (i:=2) S.nd rfl (Or.inl rfl))
   (zad (zan (i:=1) S.nd rfl (Or.inl rfl) (zaK C_shapes_behind (hr.mono (by decide)) rfl (zaa (pv 0) (zaa (pv 1) zac))))
   (zag (zaM (zar zc4 (zab) (pv 1) (by with_unfolding_all rfl))
    (zag (zaj (pv 2)))
    (zao)))))
  (zag (zaj (zab)))),?_⟩
  refine ⟨bigr rfl,fun p0 np0 => ?_⟩
  have s1:Same H (upd H p0 (.lst [.int 0])):=Same.new np0
  refine ⟨_,_,rfl,rfl,_,_,rfl,by decide,?_⟩
  refine zbz (zaO 1 ((128:Int) + 1 - 1).toNat) (fun i σ Hx=>Same H Hx/\(∀ n,1<=n->n<=i->¬ Fil C n)/\∃ p x2,σ = [some (.ref a),some (.ref p),x2]/\Hx p=some (.lst ((rowN C i).map fun s=>V.int (s:Nat)))) ⟨s1,fun n h1 h2=>by omega,p0,_,rfl,zaf⟩ (fun _ _ _ _ _=>trivial) ?_ ?_
  ·rintro i x σ Hx hx ⟨sx,hno,p,x2,rfl,hp⟩
   obtain ⟨hi,rfl⟩:=zbm hx
   have hi:i < 128:=hi
   refine ⟨_,rfl,_,rfl,a,p,ts,C,rowN C i,rfl,sx _ _ ha,tb.same sx,gc,h8,hp,(zf6 C i).1,(zf6 C i).2,fun p2 H2 s2 np2 hp2 => ?_⟩
   have hf:decide (0∈rowN C (i + 1))=true ↔ Fil C (i + 1):=by
    rw [decide_eq_true_eq,zc1 gc]; exact Iff.rfl
   refine ⟨_,rfl,_,_,rfl,.inl (SqL.of hp2),rfl,zeL _,_,rfl,?_⟩
   rw [if_neg Bool.false_ne_true,zfI]
   refine ite2 (fun h0 => ?_) (fun h0 => ?_)
   ·refine ⟨_,rfl,?_⟩
    have:=q (i + 1) H2 (sx.trans s2) (.inr ⟨by omega,by omega,hf.mp h0⟩)
    rw [show (1:Int) + ((i:Nat):Int)=((i + 1:Nat):Int) by omega]
    exact this
   ·refine ⟨sx.trans s2,fun n h1 h2 hn => ?_,p2,_,rfl,hp2⟩
    by_cases z:n=i + 1
    ·subst z; exact h0 (hf.mpr hn)
    ·exact hno n h1 (by omega) hn
  ·rintro σ Hx ⟨sx,hno,p,x2,rfl,hp⟩
   rw [zbC] at hno
   refine q 0 Hx sx (.inl ⟨rfl,fun n h1 hn => ?_⟩)
   obtain ⟨m,m1,m2,m3⟩:=fil_small gc n hn h1
   exact hno m m1 m2 m3
noncomputable def lkv (l:List (Nat×Nat)):List (Key×V):=l.map fun x=>(Sum.inl ((x.1:Nat):Int),V.int ((x.2:Nat):Int))
noncomputable def pkey (x:Nat×Nat):List Key:=kI [((x.1:Nat):Int),((x.2:Nat):Int)]
theorem pkey_inj {x y:Nat×Nat} (h:pkey x=pkey y):x=y:=by
 have:=zfG h
 injection this with a b
 injection b with b _
 exact Prod.ext (by omega) (by omega)
theorem pkey_mem {S:List (Nat×Nat)} {x:Nat×Nat}:pkey x∈S.map pkey ↔ x∈S:=by
 rw [List.mem_map]
 exact ⟨fun ⟨y,h,e⟩=>pkey_inj e ▸ h,fun h=>⟨x,h,rfl⟩⟩
theorem zfF (l:List (Nat×Nat)):(lkv l).map (·.1)=l.map fun x=>(Sum.inl ((x.1:Nat):Int):Key):=by
 unfold lkv; rw [List.map_map]; rfl
theorem inl_nd {l:List (Nat×Nat)} (nd:(l.map (·.1)).Nodup):((lkv l).map (·.1)).Nodup:=by
 rw [zfF,List.Nodup,List.pairwise_map]
 rw [List.Nodup,List.pairwise_map] at nd
 exact nd.imp fun h e=>h (by injection e with e; omega)
theorem zd7 {l:List (Nat×Nat)} (nd:(l.map (·.1)).Nodup) {r ℓ : Nat} (h:(r,ℓ)∈l):valV (lkv l) (Sum.inl ((r:Nat):Int))=some (.int ((ℓ : Nat):Int)):=by
 obtain ⟨i,hi⟩:=List.mem_iff_getElem?.mp h
 refine zfU (inl_nd nd) (i:=i) ?_
 unfold lkv
 rw [List.getElem?_map,hi]
 rfl
theorem zfE {l:List (Nat×Nat)} {r:Nat} (h:∀ ℓ,(r,ℓ) ∉ l):valV (lkv l) (Sum.inl ((r:Nat):Int))=none:=by
 cases e:valV (lkv l) (Sum.inl ((r:Nat):Int)) with
 | none=>rfl
 | some v =>
  exfalso
  have:=valV_mem.mp (show (valV (lkv l) (Sum.inl ((r:Nat):Int):Key)).isSome=true by rw [e]; rfl)
  rw [zfF,List.mem_map] at this
  obtain ⟨x,hx,ex⟩:=this
  injection ex with ex
  have:x.1=r:=by omega
  exact h x.2 (by rw [<- this]; exact hx)
theorem pairs_bound {S:List (Nat×Nat)} (nd:S.Nodup) (h:∀ x∈S,x.1 < 128/\x.2 < 128):S.length<=16384:=by
 have:=zba 16384 (S.map fun x=>x.1 + 128 * x.2) (by
  rw [List.Nodup,List.pairwise_map]
  rw [List.nodup_iff_pairwise_ne] at nd
  refine List.Pairwise.imp_of_mem (fun {x y} hx hy hn e=>hn ?_) nd
  have:=h x hx
  have:=h y hy
  exact Prod.ext (by omega) (by omega)) (fun y hy=>by
  obtain ⟨x,hx,rfl⟩:=List.mem_map.mp hy
  have:=h x hx
  omega)
 rwa [List.length_map] at this
noncomputable def sp_least:Sp:=fun vs H Q _=>∃ (a:Addr) (ts:List V) (C:Combs) (t:Nat),vs = [.ref a,.int (t:Nat)]/\H a=some (.lst ts)/\TabR H ts C/\GC C/\C.length<=8/\1<=t/\t<=128/\∀ (d:Addr) (l:List (Nat×Nat)) (N:Nat) (H':Hp),Same H H'->H d=none->H' d=some (.dK (lkv l))->LeastL C t N l->(∀ s,¬ Fst C t N s)->N<=16384->Q (.ref d) H'
theorem zbM:FnScope ["table","turn","least","seen","shapes","length","rest","shape","behind"] ["table","turn"] (defScope s_least_lengths):=⟨rfl,rfl,rfl,by decide +kernel,rfl,by decide +kernel,by decide +kernel⟩
theorem ok_least (D:DefAt K mg "least_lengths" s_least_lengths) (T:Bn mg) (C_shapes_behind:Callee P w K mg base "shapes_behind" 1 ["table","shapes"] sp_behind):Callee P w K mg base "least_lengths" 2 ["table","turn"] sp_least:=by
 refine D.callee zbM (fun _ _ _ _ _ _=>ln2 fun _ _=>rfl) (fun vs H Q E h => ?_) (fun f cdv A outer s H vs Q E hr h => ?_)
 ·obtain ⟨a,ts,C,t,rfl,_⟩:=h
  rfl
 ·obtain ⟨a,ts,C,t,rfl,ha,tb,gc,h8,t1,t2,q⟩:=h
  have S:=zbM
  have hu:=zdc hr
  have hsz:(20000:Nat)<=sizeLine:=by decide
  refine ⟨_,zad (zan (i:=2) S.nd rfl (Or.inl rfl) (zd1))
  (zad (zan (i:=3) S.nd rfl (Or.inr rfl) (pe_dnewT))
  (zad (zan (i:=4) S.nd rfl (Or.inl rfl) (zaU (zaa (zab) zac)))
  (zad (zan (i:=5) S.nd rfl (Or.inr rfl) (zab))
  (zad (ps_while PassesOwn.never (zar zhp (zai zau rfl T.n_len PySem.boot_len (zaa (pv 4) zac)) (zab) (zaw _))
   (zad (zan (i:=6) S.nd rfl (Or.inl rfl) (zax zbl (pv 5) (pv 1)))
   (zcb (zaM (zar zc4 (zab) (pv 4) (by with_unfolding_all rfl))
    (zag (zd0 hu (pv 2) (pv 6) (pv 5) rfl))
    (zao))
   (zad (zaY PassesOwn.never rfl (zav (pv 4)) (zam (i:=7) S.nd rfl (Or.inl rfl))
    (zag (zd0 hu (pv 3) (zbR (zaa (pv 7) (zaa (pv 6) zac))) (zb5) rfl)))
   (zad (zan (i:=5) S.nd rfl (Or.inr rfl) (zax zbp (pv 5) (zab)))
   (zad (zan (i:=8) S.nd rfl (Or.inl rfl) (zaK C_shapes_behind (hr.mono (by decide)) rfl (zaa (pv 0) (zaa (pv 4) zac))))
   (zag (zgc (i:=4) S.nd rfl (Or.inl rfl) (own := ["further"]) (caps := [(5,"length"),(1,"turn"),(3,"seen")]) rfl ⟨rfl,rfl,rfl,rfl,⟨⟨rfl,rfl,.inl rfl⟩,⟨rfl,rfl,.inl rfl⟩,⟨rfl,rfl,.inl rfl⟩,trivial⟩⟩ (zav (pv 8)) (fun _ _ _ _ _ _=>zam (i:=0) (zaT (by decide +kernel)) rfl (Or.inl rfl)) (fun _ _ _ _ _ _=>zcH (zgb (zeu hu (zbR (zaa (pv 0) (zaa (zax zbl (pv 1) (pv 2)) zac))) (pv 3)))) (fun _ _ _ _ _ _=>pv 0)))))))))
  (zag (zaj (pv 2))))))),?_⟩
  refine fun d nd => ?_
  have s1:Same H (upd H d (.dK [])):=Same.new nd
  have hd1:upd H d (.dK []) d=some (.dK []):=zaf
  generalize upd H d (.dK [])=H1 at s1 hd1 ⊢
  refine fun se nse => ?_
  have s2:Same H1 (upd H1 se (.dT [])):=Same.new nse
  have hse2:upd H1 se (.dT []) se=some (.dT []):=zaf
  have nse0:=s1.free nse
  have hds:d≠se:=fun z=>by rw [<- z,hd1] at nse; cases nse
  have hd2:=s2 _ _ hd1
  have s12:=s1.trans s2
  generalize upd H1 se (.dT [])=H2 at s12 hse2 hd2 ⊢
  refine ⟨bigr rfl,fun p0 np0 => ?_⟩
  have s3:Same H2 (upd H2 p0 (.lst [.int 0])):=Same.new np0
  have hp3:upd H2 p0 (.lst [.int 0]) p0=some (.lst (([0]:List Nat).map fun s=>V.int (s:Nat))):=zaf
  have s13:=s12.trans s3
  have hd3:=s3 _ _ hd2
  have hse3:=s3 _ _ hse2
  generalize upd H2 p0 (.lst [.int 0])=H3 at s13 hp3 hd3 hse3 ⊢
  let J:Nat->Hp->L2.St->Prop:=fun m Hx σ => Same H Hx/\∃ (ℓ : Nat) (p:Addr) (sh:List Nat) (l:List (Nat×Nat)) (svs:List (List Key×V)) (Sn:List (Nat×Nat)) (x6 x7 x8:Option V),m=20000 - Sn.length /\ σ = [some (.ref a),some (.int (t:Nat)),some (.ref d),some (.ref se),some (.ref p),some (.int (ℓ : Nat)),x6,x7,x8]/\Hx p=some (.lst (sh.map fun s=>V.int (s:Nat)))/\sh.Nodup/\(∀ s,s∈sh ↔ Fst C t ℓ s)/\Hx d=some (.dK (lkv l))/\LeastL C t ℓ l/\Hx se=some (.dT svs)/\svs.map (·.1)=Sn.map pkey/\Sn.Nodup/\(∀ s r,(s,r)∈Sn ↔ ∃ ℓ',ℓ' < ℓ /\ r = ℓ' % t/\rch C 0 ℓ' s) /\ ℓ <= Sn.length
  have J0:J 20000 H3 [some (.ref a),some (.int (t:Nat)),some (.ref d),some (.ref se),some (.ref p0),some (.int 0),none,none,none]:=by
   refine ⟨s13,0,p0,[0],[],[],[],none,none,none,rfl,rfl,hp3,by simp,fun s => ?_,hd3,⟨List.nodup_nil,fun r ℓ => ?_⟩,hse3,rfl,List.nodup_nil,fun s r => ?_,Nat.le_refl _⟩
   ·rw [List.mem_singleton]
    exact ⟨fun h=>⟨h,fun ℓ' h'=>by omega⟩,fun h=>h.1⟩
   ·exact ⟨fun h=>(by cases h),fun h=>(by omega)⟩
   ·exact ⟨fun h=>(by cases h),fun ⟨ℓ',h,_⟩=>(by omega)⟩
  refine ⟨fun m σ Hx=>J m Hx σ,⟨_,J0⟩,?_⟩
  clear J0 s13 hp3 hd3 hse3
  rintro m σ Hx ⟨sx,ℓ,p,sh,l,svs,Sn,x6,x7,x8,rfl,rfl,hp,shn,hsh,hd,hl,hse,hsk,snn,hSn,hle⟩
  have hlt:∀ s∈sh,s < 128:=fun s hs=>zdD gc (by decide) ((hsh s).mp hs).1
  have hs128:=zba 128 sh shn hlt
  have hmod:∀ n,n % t < t:=fun n=>Nat.mod_lt _ (by omega)
  have snb:Sn.length<=16384:=pairs_bound snn fun x hx=>by
   obtain ⟨s,r⟩:=x
   obtain ⟨ℓ',_,e,h⟩:=(hSn s r).mp hx
   exact ⟨zdD gc (by decide) h,by have:=hmod ℓ'; show r < 128; omega⟩
  refine ⟨_,rfl,_,_,rfl,.inl (SqL.of hp),_,_,rfl,rfl,_,rfl,?_⟩
  rw [List.length_map]
  by_cases hem:sh = []
  ·subst hem
   rw [decide_eq_false (by simp)]
   refine iteF ?_
   exact ⟨_,rfl,q d l ℓ Hx sx nd hd hl (fun s hs=>by have:=(hsh s).mpr hs; cases this) (by omega)⟩
  have hpos:0 < sh.length:=List.length_pos_iff.mpr hem
  rw [decide_eq_true (show (0:Int) < ((sh.length:Nat):Int) by omega)]
  refine iteT ?_
  refine ⟨fun σ' H'=>∃ m',m' < 20000 - Sn.length/\J m' H' σ',fun _ _ h=>h,?_⟩
  have emod:((ℓ : Nat):Int) % ((t:Nat):Int)=((ℓ % t:Nat):Int):=(Int.natCast_emod ℓ t).symm
  refine ⟨_,rfl,_,rfl,_,_,rfl,rfl,show (0:Int) < ((t:Nat):Int) by omega,?_⟩
  refine ⟨fun σ Hy=>Same H Hy/\Hy p=some (.lst (sh.map fun s=>V.int (s:Nat)))/\Hy se=some (.dT svs) /\ σ = [some (.ref a),some (.int (t:Nat)),some (.ref d),some (.ref se),some (.ref p),some (.int (ℓ : Nat)),some (.int (((ℓ : Nat):Int) % ((t:Nat):Int))),x7,x8]/\∃ l',Hy d=some (.dK (lkv l'))/\LeastL C t (ℓ + 1) l',?_,?_⟩
  ·refine ⟨_,rfl,_,_,rfl,.inl (SqL.of hp),rfl,zeL _,_,rfl,?_⟩
   rw [if_neg Bool.false_ne_true,zfI]
   refine ite2 (fun h0 => ?_) (fun h0 => ?_)
   ·have h0:=(hsh 0).mp (of_decide_eq_true h0)
    have hno:∀ ℓ',(ℓ % t,ℓ') ∉ l:=fun ℓ' z=>by
     obtain ⟨a1,a2,a3⟩:=(hl.2 _ _).mp z
     exact h0.2 ℓ' a1 a2.symm a3.1
    have hln:l.length<=16384:=by
     have:=zba 16384 (l.map (·.1)) hl.1 (fun y hy=>by
      obtain ⟨⟨r,ℓ'⟩,hx,rfl⟩:=List.mem_map.mp hy
      obtain ⟨_,a2,_⟩:=(hl.2 _ _).mp hx
      have:=hmod ℓ'
      show r < 16384
      omega)
     rwa [List.length_map] at this
    refine ⟨_,rfl,_,rfl,_,rfl,d,_,rfl,DPut.k (k:=Sum.inl (((ℓ : Nat):Int) % ((t:Nat):Int))) hd (by unfold lkv; rw [List.length_map]; omega),?_⟩
    rw [emod,zfx _ (zfE hno)]
    have hpd:p≠d:=fun z=>by rw [z,hd] at hp; cases hp
    refine ⟨sx.put nd,by rw [zah hpd]; exact hp,by rw [zah hds.symm]; exact hse,rfl,l ++ [(ℓ % t,ℓ)],?_,?_⟩
    ·rw [zaf]
     unfold lkv
     rw [List.map_append]
     rfl
    ·refine ⟨?_,fun r ℓ' => ?_⟩
     ·rw [List.map_append]
      refine List.nodup_append.mpr ⟨hl.1,by simp,fun u hu' v hv e => ?_⟩
      obtain ⟨⟨r,ℓ'⟩,hx,rfl⟩:=List.mem_map.mp hu'
      have hv:v = ℓ % t:=by simpa using hv
      rw [hv] at e
      dsimp only at e
      rw [e] at hx
      exact hno _ hx
     ·rw [List.mem_append,hl.2,List.mem_singleton]
      constructor
      ·rintro (⟨a1,a2,a3⟩ | e)
       ·exact ⟨by omega,a2,a3⟩
       ·injection e with e1 e2
        subst e1 e2
        exact ⟨by omega,rfl,h0⟩
      ·rintro ⟨a1,a2,a3⟩
       by_cases z : ℓ' = ℓ
       ·subst z; exact .inr (by rw [a2])
       ·exact .inl ⟨by omega,a2,a3⟩
   ·refine ⟨sx,hp,hse,rfl,l,hd,hl.1,fun r ℓ' => ?_⟩
    rw [hl.2]
    constructor
    ·rintro ⟨a1,a2,a3⟩
     exact ⟨by omega,a2,a3⟩
    ·rintro ⟨a1,a2,a3⟩
     refine ⟨?_,a2,a3⟩
     by_cases z : ℓ' = ℓ
     ·subst z; exact absurd (decide_eq_true ((hsh 0).mpr a3)) h0
     ·omega
  rintro σ Hy ⟨sy,hpy,hsey,rfl,l',hdy,hl'⟩
  rw [emod]
  clear hp hse hd
  have hnewS:∀ s∈sh,(s,ℓ % t) ∉ Sn:=fun s hs z=>by
   obtain ⟨ℓ',a1,a2,a3⟩:=(hSn _ _).mp z
   exact ((hsh s).mp hs).2 ℓ' a1 a2.symm a3
  have hpse:p≠se:=fun z=>by rw [z,hsey] at hpy; cases hpy
  refine ⟨_,rfl,_,rfl,⟨_,SqL.of hpy⟩,?_⟩
  refine zbz (zak K p _) (fun i σ Hz=>Same H Hz/\Hz p=some (.lst (sh.map fun s=>V.int (s:Nat)))/\Hz d=some (.dK (lkv l'))/\∃ (svs':List (List Key×V)) (x7:Option V),σ = [some (.ref a),some (.int (t:Nat)),some (.ref d),some (.ref se),some (.ref p),some (.int (ℓ : Nat)),some (.int ((ℓ % t:Nat):Int)),x7,x8]/\Hz se=some (.dT svs')/\svs'.map (·.1)=(Sn ++ (sh.take i).map fun s=>(s,ℓ % t)).map pkey) ⟨sy,hpy,hdy,svs,_,rfl,hsey,by rw [List.take_zero,List.map_nil,List.append_nil]; exact hsk⟩ (fun i σ Hz _ h=>SqL.of h.2.1) ?_ ?_
  ·rintro i x σ Hz hx ⟨sz,hpz,hdz,svs',x7',rfl,hsez,hskz⟩
   rw [List.getElem?_map] at hx
   cases es:sh[i]? with
   | none=>rw [es] at hx; cases hx
   | some s0 =>
    rw [es] at hx
    cases hx
    have hi:i < sh.length:=(List.getElem?_eq_some_iff.mp es).1
    refine ⟨_,rfl,_,rfl,_,rfl,bigr rfl,fun tk ntk => ?_⟩
    have s5:Same Hz (upd Hz tk (.tup [.int ((s0:Nat):Int),.int ((ℓ % t:Nat):Int)])):=Same.new ntk
    have htk:upd Hz tk (.tup [.int ((s0:Nat):Int),.int ((ℓ % t:Nat):Int)]) tk=some (.tup ((pkey (s0,ℓ % t)).map kV)):=by
     rw [zaf]; unfold pkey; rw [kI_V]; rfl
    have hvl:svs'.length<=17000:=by
     have:=congrArg List.length hskz
     rw [List.length_map,List.length_map,List.length_append,List.length_map,List.length_take] at this
     omega
    refine ⟨se,_,rfl,DPut.t (k:=pkey (s0,ℓ % t)) (s5 _ _ hsez) htk (by omega),?_⟩
    have hnone:valV svs' (pkey (s0,ℓ % t))=none:=by
     cases ez:valV svs' (pkey (s0,ℓ % t)) with
     | none=>rfl
     | some v =>
      exfalso
      have z:=valV_mem.mp (show (valV svs' (pkey (s0,ℓ % t))).isSome=true by rw [ez]; rfl)
      rw [hskz,pkey_mem] at z
      rcases List.mem_append.mp z with z | z
      ·exact hnewS s0 (List.mem_of_getElem? es) z
      ·obtain ⟨s',hs',e'⟩:=List.mem_map.mp z
       injection e' with e' _
       subst e'
       obtain ⟨n,hn,en⟩:=List.getElem_of_mem hs'
       rw [List.length_take] at hn
       rw [List.getElem_take] at en
       have:n=i:=(List.getElem?_inj (l:=sh) (by omega) shn).mp (by rw [es,List.getElem?_eq_getElem (by omega),en])
       omega
    rw [zfx _ hnone]
    refine ⟨(sz.trans s5).put nse0,by rw [zah hpse]; exact s5 _ _ hpz,by rw [zah hds]; exact s5 _ _ hdz,_,_,rfl,zaf,?_⟩
    rw [List.map_append,hskz,zaE es]
    simp only [List.map_append,List.append_assoc]
    rfl
  rintro σ Hz ⟨sz,hpz,hdz,svs',x7',rfl,hsez,hskz⟩
  rw [List.length_map,List.take_length] at hskz
  generalize hS2:Sn ++ sh.map (fun s=>(s,ℓ % t))=S2 at hskz
  have S2n:S2.Nodup:=by
   rw [<- hS2]
   refine List.nodup_append.mpr ⟨snn,?_,fun u hu' v hv e => ?_⟩
   ·rw [List.Nodup,List.pairwise_map]
    exact shn.imp fun h e=>h (by injection e)
   ·obtain ⟨s',hs',rfl⟩:=List.mem_map.mp hv
    rw [e] at hu'
    exact hnewS s' hs' hu'
  have hS2m:∀ s r,(s,r)∈S2 ↔ ∃ ℓ',ℓ' < ℓ + 1/\r = ℓ' % t/\rch C 0 ℓ' s:=fun s r=>by
   rw [<- hS2,List.mem_append,hSn]
   constructor
   ·rintro (⟨ℓ',a1,a2⟩ | z)
    ·exact ⟨ℓ',by omega,a2⟩
    ·obtain ⟨s',hs',e'⟩:=List.mem_map.mp z
     injection e' with e1 e2
     subst e1 e2
     exact ⟨ℓ,by omega,rfl,((hsh s').mp hs').1⟩
   ·rintro ⟨ℓ',a1,a2,a3⟩
    by_cases z : ℓ' = ℓ
    ·subst z
     by_cases y:s∈sh
     ·exact .inr (List.mem_map.mpr ⟨s,y,by rw [a2]⟩)
     ·have:∃ ℓ'',ℓ'' < ℓ' /\ ℓ'' % t = ℓ' % t/\rch C 0 ℓ'' s:=Classical.byContradiction fun w=>y ((hsh s).mpr ⟨a3,fun ℓ'' b1 b2 b3=>w ⟨ℓ'',b1,b2,b3⟩⟩)
      obtain ⟨ℓ'',b1,b2,b3⟩:=this
      exact .inl ⟨ℓ'',b1,by rw [a2,b2],b3⟩
    ·exact .inl ⟨ℓ',by omega,a2,a3⟩
  have S2l:S2.length=Sn.length + sh.length:=by rw [<- hS2,List.length_append,List.length_map]
  have e1:((ℓ : Nat):Int) + 1=((ℓ + 1:Nat):Int):=by omega
  refine ⟨_,rfl,_,_,rfl,rfl,?_⟩
  refine ⟨_,rfl,_,rfl,a,p,ts,C,sh,rfl,sz _ _ ha,tb.same sz,gc,h8,hpz,hlt,hs128,fun b H4 s4 nb hb => ?_⟩
  refine ⟨_,rfl,_,rfl,⟨_,SqL.of hb⟩,fun D hD => ?_⟩
  have emod1:(((ℓ : Nat):Int) + 1) % ((t:Nat):Int)=(((ℓ + 1) % t:Nat):Int):=by rw [e1]; exact (Int.natCast_emod (ℓ + 1) t).symm
  have hse4:=s4 _ _ hsez
  refine zcA (capv := [some (.int (((ℓ : Nat):Int) + 1)),some (.int (t:Nat)),some (.ref se)]) (by rfl) (zak K b _) (by rw [List.length_map]; exact big (by have:=ze8 C sh; omega)) hD (fun H' s'=>SqL.of (s' _ _ hb)) (fun v=>match v with | .int x=>decide ((x.toNat,(ℓ + 1) % t) ∉ S2) | _=>false) id ?_ ?_ ?_
  ·intro x hx H' R s' h
   obtain ⟨s0,hs0,rfl⟩:=List.mem_map.mp hx
   refine ⟨_,rfl,_,rfl,_,rfl,_,_,rfl,rfl,show (0:Int) < ((t:Nat):Int) by omega,bigr rfl,fun tk ntk => ?_⟩
   have s5:Same H' (upd H' tk (.tup [.int ((s0:Nat):Int),.int ((((ℓ : Nat):Int) + 1) % ((t:Nat):Int))])):=Same.new ntk
   have htk:upd H' tk (.tup [.int ((s0:Nat):Int),.int ((((ℓ : Nat):Int) + 1) % ((t:Nat):Int))]) tk=some (.tup ((pkey (s0,(ℓ + 1) % t)).map kV)):=by
    rw [zaf,emod1]; unfold pkey; rw [kI_V]; rfl
   refine ⟨_,rfl,se,_,rfl,DGet.t (s5 _ _ (s' _ _ hse4)) htk,_,rfl,?_⟩
   have ev:(!(valV svs' (pkey (s0,(ℓ + 1) % t))).isSome)=decide ((((s0:Nat):Int).toNat,(ℓ + 1) % t) ∉ S2):=by
    rw [show ((s0:Nat):Int).toNat=s0 by omega]
    by_cases z:(s0,(ℓ + 1) % t)∈S2
    ·rw [decide_eq_false (fun y=>y z),valV_mem.mpr (by rw [hskz]; exact pkey_mem.mpr z)]; rfl
    ·rw [decide_eq_true z]
     cases ez:(valV svs' (pkey (s0,(ℓ + 1) % t))).isSome with
     | false=>rfl
     | true =>
      have:=valV_mem.mp ez
      rw [hskz] at this
      exact absurd (pkey_mem.mp this) z
   rw [ev]
   exact h _ s5
  ·intro x hx _ H' R s' h
   exact ⟨_,rfl,h H' (Same.refl _)⟩
  intro H5 s5 e5
  have s45:=s4.trans s5
  refine ⟨20000 - S2.length,by omega,sz.trans s45,ℓ + 1,D,(behN C sh).filter fun s=>decide ((s,(ℓ + 1) % t) ∉ S2),l',svs',S2,_,_,_,rfl,by rw [<- e1]; rfl,?_,(beh_nd C sh).sublist List.filter_sublist,fun s => ?_,s45 _ _ hdz,hl',s45 _ _ hsez,hskz,S2n,hS2m,by omega⟩
  ·rw [e5,List.map_id,List.filter_map]
   congr 2
  ·rw [List.mem_filter,beh_mem,decide_eq_true_eq]
   constructor
   ·rintro ⟨⟨_,u,hu',h1⟩,h2⟩
    refine ⟨⟨u,((hsh u).mp hu').1,h1⟩,fun ℓ' a1 a2 a3=>h2 ((hS2m _ _).mpr ⟨ℓ',a1,a2.symm,a3⟩)⟩
   ·intro hf
    obtain ⟨u,hu',h1⟩:=ze3 hf
    refine ⟨⟨zdD gc (by decide) hf.1,u,(hsh u).mpr hu',h1⟩,fun z => ?_⟩
    obtain ⟨ℓ',a1,a2,a3⟩:=(hS2m _ _).mp z
    exact hf.2 ℓ' a1 a2.symm a3
noncomputable def reachB (l:List (Nat×Nat)) (t n:Nat):Bool:=l.any fun x=>decide (x.1=n % t/\x.2<=n)
theorem reach_fil {C:Combs} {t N:Nat} (ht:Fil C t) {l:List (Nat×Nat)} (h:LeastL C t N l) (hN:∀ s,¬ Fst C t N s) (n:Nat):reachB l t n=true ↔ Fil C n:=by
 rw [least_fil ht h hN]
 unfold reachB
 rw [List.any_eq_true]
 constructor
 ·rintro ⟨⟨r,ℓ⟩,hx,hd⟩
  obtain ⟨e1,e2⟩:=of_decide_eq_true hd
  dsimp only at e1 e2
  subst e1
  exact ⟨ℓ,hx,e2⟩
 ·rintro ⟨ℓ,hx,e2⟩
  exact ⟨_,hx,decide_eq_true ⟨rfl,e2⟩⟩
noncomputable def sp_reached:Sp:=fun vs H Q _=>∃ (d:Addr) (l:List (Nat×Nat)) (t n:Nat),vs = [.ref d,.int (t:Nat),.int (n:Nat)]/\H d=some (.dK (lkv l))/\(l.map (·.1)).Nodup/\1<=t/\Q (.bl (reachB l t n)) H
theorem zcr:FnScope ["least","turn","length","rest"] ["least","turn","length"] (defScope s_is_reached):=⟨rfl,rfl,rfl,by decide +kernel,rfl,by decide +kernel,by decide +kernel⟩
theorem ok_reached (D:DefAt K mg "is_reached" s_is_reached) (T:Bn mg):Callee P w K mg base "is_reached" 1 ["least","turn","length"] sp_reached:=by
 refine D.callee zcr (fun _ _ _ _ _ _=>ln3 fun _ _ _=>rfl) (fun vs H Q E h => ?_) (fun f cdv A outer s H vs Q E hr h => ?_)
 ·obtain ⟨d,l,t,n,rfl,_⟩:=h
  rfl
 ·obtain ⟨d,l,t,n,rfl,hd,nd,t1,q⟩:=h
  have S:=zcr
  have hu:=zdc hr
  have emod:((n:Nat):Int) % ((t:Nat):Int)=((n % t:Nat):Int):=(Int.natCast_emod n t).symm
  refine ⟨_,zad (zan (i:=3) S.nd rfl (Or.inl rfl) (zax zbl (pv 2) (pv 1)))
  (zag (zaj (zdF (pe_cmp (zg2 hu (pv 3) (pv 0))) (zet (zcc zdo (zgi hu (pv 0) (pv 3) (fun _ _=>rfl)) (pv 2) (zaw _)))))),?_⟩
  refine ⟨_,rfl,_,rfl,_,_,rfl,rfl,show (0:Int) < ((t:Nat):Int) by omega,?_⟩
  refine ⟨_,rfl,_,rfl,d,_,rfl,DGet.k (k:=Sum.inl (((n:Nat):Int) % ((t:Nat):Int))) hd,_,rfl,?_⟩
  rw [emod]
  by_cases h:∃ ℓ,(n % t,ℓ)∈l
  ·obtain ⟨ℓ,hℓ⟩:=h
   rw [zd7 nd hℓ]
   refine iteT ?_
   have dg:DGet H d (.int (((n:Nat):Int) % ((t:Nat):Int))) (some (.int (ℓ : Nat))):=by
    have e:=DGet.k (k:=Sum.inl ((n % t:Nat):Int)) hd
    rw [zd7 nd hℓ] at e
    rw [emod]
    exact e
   refine ⟨_,rfl,_,rfl,d,_,rfl,dg,_,rfl,_,_,rfl,rfl,?_⟩
   have er:decide (((ℓ : Nat):Int)<=((n:Nat):Int))=reachB l t n:=by
    unfold reachB
    rw [Bool.eq_iff_iff,decide_eq_true_eq,List.any_eq_true]
    constructor
    ·intro z
     exact ⟨_,hℓ,decide_eq_true ⟨rfl,by show ℓ <= n; omega⟩⟩
    ·rintro ⟨⟨r,ℓ'⟩,hx,hz⟩
     obtain ⟨e1,e2⟩:=of_decide_eq_true hz
     dsimp only at e1 e2
     subst e1
     have e3:=zd7 nd hx
     rw [zd7 nd hℓ] at e3
     injection e3 with e3
     injection e3 with e3
     omega
   rw [<- er] at q
   exact q
  ·have hno:∀ ℓ,(n % t,ℓ) ∉ l:=fun ℓ z=>h ⟨ℓ,z⟩
   rw [zfE hno]
   refine iteF ?_
   have er:reachB l t n=false:=by
    unfold reachB
    rw [List.any_eq_false]
    rintro ⟨r,ℓ⟩ hx hz
    obtain ⟨e1,_⟩:=of_decide_eq_true hz
    dsimp only at e1
    subst e1
    exact hno ℓ hx
   rw [er] at q
   exact q
noncomputable def sp_fitsf (ea:Nat->Addr) (C:Addr):Sp:=fun vs H Q E=>∃ b l G cs past n,vs = [.ref b,.int n]/\Bk C G H b l cs past /\
 (if 0<=n/\n<=1000000000000 then ∀ H',Same H H'->Q (.bl (decide (0∈rowN (srt cs) n.toNat))) H' else E (.ref (ea 13)) none H)
theorem zcs:FnScope ["book","length","table","turn"] ["book","length"] (defScope s_fits_flush):=⟨rfl,rfl,rfl,by decide +kernel,rfl,by decide +kernel,by decide +kernel⟩
theorem ok_fitsf {ea:Nat->Addr} {C:Addr} (D:DefAt K mg "fits_flush" s_fits_flush) (T:Bn mg) (V_MOST_LENGTH:∃ t,mg "MOST_LENGTH" = some (.int 1000000000000 t)) (O_BadLength:Err K mg "BadLength" (ea 13)) (C_step_table:Callee1 P w K mg base "step_table" 4 ["book"] (sp_table C)) (C_shortest_length:Callee P w K mg base "shortest_length" 2 ["table"] sp_short) (C_least_lengths:Callee P w K mg base "least_lengths" 2 ["table","turn"] sp_least) (C_is_reached:Callee P w K mg base "is_reached" 1 ["least","turn","length"] sp_reached):Callee1 P w K mg base "fits_flush" 5 ["book","length"] (sp_fitsf ea C):=by
 refine D.callee1 zcs (fun _ _ _ _ _ _=>ln2 fun _ _=>rfl) (fun vs H Q E h => ?_) (fun f cdv A outer s H vs Q E hr h => ?_)
 ·obtain ⟨b,l,G,cs,past,n,rfl,_⟩:=h
  rfl
 ·obtain ⟨b,l,G,cs,past,n,rfl,B,q⟩:=h
  have S:=zcs
  have hu:=zdc hr
  obtain ⟨gc,h8⟩:=zcF B
  refine ⟨_,zad (zaM (zbn (zcU zdo zdo (zab) (pv 1) (zbG rfl V_MOST_LENGTH)))
   (zag (zbb O_BadLength rfl (zaa (zas) zac)))
   (zao))
  (zad (zan (i:=2) S.nd rfl (Or.inl rfl) (zbf C_step_table (hr.mono (by decide)) (by first | exact zat | exact zbg | exact zaz) rfl (zaa (pv 0) zac)))
  (zad (zan (i:=3) S.nd rfl (Or.inl rfl) (zaK C_shortest_length (hr.mono (by decide)) rfl (zaa (pv 2) zac)))
  (zad (zaM (zar zb6 (pv 3) (zab) (zaw _))
   (zag (zaj (zcc zb6 (pv 1) (zab) (zaw _))))
   (zao))
  (zag (zaj (zaK C_is_reached (hr.mono (by decide)) rfl (zaa (zaK C_least_lengths (hr.mono (by decide)) rfl (zaa (pv 2) (zaa (pv 3) zac))) (zaa (pv 3) (zaa (pv 1) zac))))))))),?_⟩
  refine ⟨_,rfl,_,_,rfl,rfl,_,rfl,?_⟩
  refine ite2 (fun h0 => ?_) (fun h0 => ?_)
  rotate_left
  ·have h0:¬ (0:Int)<=n:=by simpa using h0
   rw [if_neg (fun z=>h0 z.1)] at q
   exact ⟨_,rfl,iteT ⟨bigr rfl,q⟩⟩
  have h0:(0:Int)<=n:=by simpa using h0
  refine ⟨_,_,rfl,rfl,_,rfl,?_⟩
  by_cases h1:n<=1000000000000
  case neg =>
   rw [if_neg (fun z=>h1 z.2)] at q
   rw [decide_eq_false h1]
   exact iteT ⟨bigr rfl,q⟩
  rw [if_pos ⟨h0,h1⟩] at q
  rw [decide_eq_true h1]
  refine iteF ?_
  obtain ⟨k,rfl⟩:=Int.eq_ofNat_of_zero_le h0
  rw [show ((k:Nat):Int).toNat=k by omega] at q
  have hf:decide (0∈rowN (srt cs) k)=true ↔ Fil (srt cs) k:=by rw [decide_eq_true_eq,zc1 gc]; exact Iff.rfl
  refine ⟨_,rfl,b,l,G,cs,past,rfl,B,fun a H1 ts s1 na ha tb => ?_⟩
  refine ⟨_,rfl,a,ts,srt cs,rfl,ha,tb,gc,h8,fun t H2 s2 hcase => ?_⟩
  have s12:=s1.trans s2
  refine ⟨_,rfl,rfl,_,rfl,?_⟩
  rcases hcase with ⟨rfl,hno⟩ | ⟨t1,t2,ht⟩
  ·rw [decide_eq_true (show V.int ((0:Nat):Int)=V.int 0 from rfl)]
   refine iteT ⟨_,rfl,rfl,?_⟩
   have:=q H2 s12
   have e:decide (0∈rowN (srt cs) k)=decide (V.int ((k:Nat):Int)=V.int 0):=by
    rw [Bool.eq_iff_iff,hf,decide_eq_true_eq]
    constructor
    ·intro z
     by_cases y:k=0
     ·rw [y]; rfl
     ·exact absurd z (hno k (by omega))
    ·intro z
     injection z with z
     have:k=0:=by omega
     rw [this]; exact zfL _
   rw [e] at this
   exact this
  rw [decide_eq_false (show ¬ V.int ((t:Nat):Int)=V.int 0 from fun z=>by injection z with z; omega)]
  refine iteF ?_
  refine ⟨_,rfl,_,rfl,a,ts,srt cs,t,rfl,s2 _ _ ha,tb.same s2,gc,h8,t1,t2,fun d ll N H3 s3 nd hd hl hN hNb => ?_⟩
  refine ⟨_,rfl,_,rfl,d,ll,t,k,rfl,hd,hl.1,t1,?_⟩
  have e:reachB ll t k=decide (0∈rowN (srt cs) k):=by rw [Bool.eq_iff_iff,hf]; exact reach_fil ht hl hN k
  rw [e]
  exact q H3 (s12.trans s3)
noncomputable def wrow (A:Nat->Nat):List V:=(List.range 128).map fun s=>V.int ((A s:Nat):Int)
theorem zdQ (A:Nat->Nat) {s:Nat} (h:s < 128):atI (wrow A) ((s:Nat):Int)=some (.int ((A s:Nat):Int)):=by
 refine zay ?_
 unfold wrow
 rw [List.getElem?_map,List.getElem?_range h]
 rfl
theorem wrow_len (A:Nat->Nat):(wrow A).length=128:=by unfold wrow; rw [List.length_map,List.length_range]
noncomputable def sp_behindw:Sp:=fun vs H Q _=>∃ (st a b:Addr) (x:Str) (p:Str×Int) (A B:Nat->Nat),vs = [.ref st,.ref a,.ref b,.str x]/\H st=some (.tup [.str p.1,.int p.2])/\0<=p.2/\p.2.toNat < 128/\H a=some (.lst (wrow A))/\H b=some (.lst (wrow B))/\Q (.int ((bh x A B p:Nat):Int)) H
theorem zb8:FnScope ["step","ways","wanted","name","row"] ["step","ways","wanted","name"] (defScope s_ways_behind):=⟨rfl,rfl,rfl,by decide +kernel,rfl,by decide +kernel,by decide +kernel⟩
theorem ok_behindw (D:DefAt K mg "ways_behind" s_ways_behind) (T:Bn mg):Callee P w K mg base "ways_behind" 1 ["step","ways","wanted","name"] sp_behindw:=by
 refine D.callee zb8 (fun _ _ _ _ _ _=>ln4 fun _ _ _ _=>rfl) (fun vs H Q E h => ?_) (fun f cdv A outer s H vs Q E hr h => ?_)
 ·obtain ⟨st,a,b,x,p,A',B',rfl,_⟩:=h
  rfl
 ·obtain ⟨st,a,b,x,⟨p1,p2⟩,A',B',rfl,hst,h0,h1,ha,hb,q⟩:=h
  have S:=zb8
  dsimp only at hst h0 h1
  refine ⟨_,zcb (zan (i:=4) S.nd rfl (Or.inl rfl) (pe_ifExp (zar zb6 (zaC za5 (pv 0) (zab) (fun _ _=>rfl)) (pv 3) (zaw _)) (pv 1) (pv 2)))
  (zag (zaj (zaC zaI (pv 4) (zaC za5 (pv 0) (zab) (fun _ _=>rfl)) (fun _ _=>rfl)))),?_⟩
  have e2:p2=((p2.toNat:Nat):Int):=by omega
  refine ⟨fun σ Hx=>Hx=H/\∃ (r:Addr),H r=some (.lst (wrow (if p1=x then A' else B'))) /\ σ = [some (.ref st),some (.ref a),some (.ref b),some (.str x),some (.ref r)],?_,?_⟩
  ·refine ⟨_,rfl,_,_,_,_,rfl,rfl,SqT.of hst,at0,_,rfl,rfl,_,rfl,?_⟩
   by_cases e:p1=x
   ·rw [decide_eq_true (by rw [e])]
    refine iteT ?_
    exact ⟨_,rfl,rfl,a,by rw [if_pos e]; exact ha,rfl⟩
   ·rw [decide_eq_false (fun z=>e (by injection z))]
    refine iteF ?_
    exact ⟨_,rfl,rfl,b,by rw [if_neg e]; exact hb,rfl⟩
  rintro σ Hx ⟨rfl,r,hr',rfl⟩
  refine ⟨_,rfl,_,rfl,_,_,_,_,rfl,rfl,SqT.of hst,at1,_,_,_,_,rfl,rfl,SqL.of hr',by rw [e2]; exact zdQ _ h1,?_⟩
  have e3:(if p1=x then A' else B') p2.toNat=bh x A' B' (p1,p2):=by
   unfold bh
   dsimp only
   split <;> rfl
  rw [e3]
  exact q
noncomputable def sp_from:Sp:=fun vs H Q _=>∃ (l a b:Addr) (x:Str) (ws:List V) (ps:List (Str×Int)) (A B:Nat->Nat),vs = [.ref l,.ref a,.ref b,.str x]/\H l=some (.lst ws)/\StepsR H ws ps/\ps.length<=100/\(∀ p∈ps,0<=p.2/\p.2.toNat < 128)/\H a=some (.lst (wrow A))/\H b=some (.lst (wrow B))/\∀ H',Same H H'->Q (.int (((ps.map (bh x A B)).sum:Nat):Int)) H'
theorem sum_cast (l:List Nat):(l.map fun (n:Nat)=>(n:Int)).sum=((l.sum:Nat):Int):=by
 induction l with
 | nil=>rfl
 | cons a l ih=>rw [List.map_cons,List.sum_cons,List.sum_cons,ih]; omega
theorem zcN:FnScope ["steps","ways","wanted","name"] ["steps","ways","wanted","name"] (defScope s_ways_from):=⟨rfl,rfl,rfl,by decide +kernel,rfl,by decide +kernel,by decide +kernel⟩
theorem ok_from (D:DefAt K mg "ways_from" s_ways_from) (T:Bn mg) (C_ways_behind:Callee P w K mg base "ways_behind" 1 ["step","ways","wanted","name"] sp_behindw):Callee P w K mg base "ways_from" 2 ["steps","ways","wanted","name"] sp_from:=by
 refine D.callee zcN (fun _ _ _ _ _ _=>ln4 fun _ _ _ _=>rfl) (fun vs H Q E h => ?_) (fun f cdv A outer s H vs Q E hr h => ?_)
 ·obtain ⟨l,a,b,x,ws,ps,A',B',rfl,_⟩:=h
  rfl
 ·obtain ⟨l,a,b,x,ws,ps,A',B',rfl,hl,sr,hpl,hps,ha,hb,q⟩:=h
  have S:=zcN
  have hwl:=sr.length
  refine ⟨_,zag (zaj (zai (zeP rfl) rfl T.n_sum boot_sum (zaa (za2 (own := ["step"]) (caps := [(1,"ways"),(2,"wanted"),(3,"name")]) rfl ⟨rfl,rfl,rfl,rfl,⟨⟨rfl,rfl,.inl rfl⟩,⟨rfl,rfl,.inl rfl⟩,⟨rfl,rfl,.inl rfl⟩,trivial⟩⟩ (zav (pv 0)) (fun _ _ _ _ _ _=>zam (i:=0) (zaT (by decide +kernel)) rfl (Or.inl rfl)) (fun _ _ _ _ _ _=>zbi) (fun _ _ _ _ _ _=>zaK C_ways_behind (hr.mono (by decide)) rfl (zaa (pv 0) (zaa (pv 1) (zaa (pv 2) (zaa (pv 3) zac)))))) zac))),?_⟩
  refine ⟨_,rfl,_,rfl,⟨_,SqL.of hl⟩,fun D hD => ?_⟩
  refine zcQ (capv := [some (.ref a),some (.ref b),some (.str x)]) (by rfl) (zak K l ws) (big (by omega)) hD (fun H' s'=>SqL.of (s' _ _ hl)) (fun _=>true) (fun u=>V.int ((bh x A' B' (ps.getD u ("",0)):Nat):Int)) (fun _ _ _=>nofun) (fun u y hy H' R s' h=>h H' (Same.refl _)) ?_ ?_
  ·intro u y hy _ H' R s' h
   have hu:u < ps.length:=by rw [<- hwl]; exact (List.getElem?_eq_some_iff.mp hy).1
   obtain ⟨qa,e4,e5⟩:=sr.get (List.getElem?_eq_getElem hu)
   rw [hy] at e4
   cases e4
   have hm:=hps _ (List.getElem_mem hu)
   refine ⟨_,rfl,_,rfl,_,rfl,_,rfl,qa,a,b,x,ps[u],A',B',rfl,s' _ _ e5,hm.1,hm.2,s' _ _ ha,s' _ _ hb,?_⟩
   have:=h H' (Same.refl _)
   rw [List.getD_eq_getElem?_getD,List.getElem?_eq_getElem hu] at this
   exact this
  intro H1 s1 e1
  refine ⟨D,ps.map fun p=>((bh x A' B' p:Nat):Int),rfl,SqL.of ?_,?_⟩
  ·rw [e1,List.filter_eq_self.mpr (fun _ _=>rfl),hwl,List.map_map]
   congr 2
   refine List.ext_getElem? fun u => ?_
   rw [List.getElem?_map,List.getElem?_map]
   by_cases z:u < ps.length
   ·rw [List.getElem?_range z,List.getElem?_eq_getElem z,Option.map_some,Option.map_some,List.getD_eq_getElem?_getD,List.getElem?_eq_getElem z]
    rfl
   ·rw [List.getElem?_eq_none (by rw [List.length_range]; omega),List.getElem?_eq_none (by omega)]
    rfl
  have e2:(ps.map fun p=>((bh x A' B' p:Nat):Int)).sum=(((ps.map (bh x A' B')).sum:Nat):Int):=by
   rw [<- sum_cast,List.map_map]
   rfl
  rw [e2]
  exact q H1 s1
noncomputable def WaysR (N:Addr->Prop) (H:Hp) (ws:List V) (A:Nat->Nat->Nat) (n:Nat):Prop:=ws.length=n + 1/\∀ k:Nat,k<=n->∃ q,ws[k]?=some (.ref q)/\N q/\H q=some (.lst (wrow (A k)))
theorem WaysR.mono {N N':Addr->Prop} {H H':Hp} {ws:List V} {A:Nat->Nat->Nat} {n:Nat} (r:WaysR N H ws A n) (hn:∀ q,N q->N' q) (m:∀ q o,N q->H q=some o->H' q=some o):WaysR N' H' ws A n:=⟨r.1,fun k hk=>let ⟨q,a,b,c⟩:=r.2 k hk; ⟨q,a,hn q b,m _ _ b c⟩⟩
theorem WaysR.snoc {N:Addr->Prop} {H:Hp} {ws:List V} {A:Nat->Nat->Nat} {n:Nat} {q:Addr} (r:WaysR N H ws A n) (hq:H q=some (.lst (wrow (A (n + 1))))) (hn:N q):WaysR N H (ws ++ [.ref q]) A (n + 1):=by
 refine ⟨by rw [List.length_append,r.1]; rfl,fun k hk => ?_⟩
 by_cases e:k=n + 1
 ·subst e
  exact ⟨q,by rw [List.getElem?_append_right (by rw [r.1]; exact Nat.le_refl _),r.1,Nat.sub_self]; rfl,hn,hq⟩
 ·obtain ⟨q',a,b,c⟩:=r.2 k (by omega)
  exact ⟨q',by rw [List.getElem?_append_left (by rw [r.1]; omega)]; exact a,b,c⟩
noncomputable def sp_close:Sp:=fun vs H Q _=>∃ (a:Addr) (ts:List V) (C:Combs) (n:Nat),vs = [.ref a,.int (n:Nat)]/\H a=some (.lst ts)/\TabR H ts C/\GC C/\C.length<=8/\n<=200/\∀ (r:Addr) (ws:List V) (H':Hp),Same H H'->H' r=some (.lst ws)->WaysR (fun _=>True) H' ws (Wy C) n->Q (.ref r) H'
theorem zbK:FnScope ["table","length","rows","passed"] ["table","length"] (defScope s_ways_to_close):=⟨rfl,rfl,rfl,by decide +kernel,rfl,by decide +kernel,by decide +kernel⟩
theorem ok_close (D:DefAt K mg "ways_to_close" s_ways_to_close) (T:Bn mg) (C_ways_from:Callee P w K mg base "ways_from" 2 ["steps","ways","wanted","name"] sp_from):Callee P w K mg base "ways_to_close" 3 ["table","length"] sp_close:=by
 refine D.callee zbK (fun _ _ _ _ _ _=>ln2 fun _ _=>rfl) (fun vs H Q E h => ?_) (fun f cdv A outer s H vs Q E hr h => ?_)
 ·obtain ⟨a,ts,C,n,rfl,_⟩:=h
  rfl
 ·obtain ⟨a,ts,C,n,rfl,ha,tb,gc,h8,hn,q⟩:=h
  have S:=zbK
  have htl:=tb.1
  refine ⟨_,zad (zan (i:=2) S.nd rfl (Or.inr rfl) (zaU (zaa (za2 (own := ["steps"]) (caps := []) rfl ⟨rfl,rfl,rfl,rfl,trivial⟩ (zav (pv 0)) (fun _ _ _ _ _ _=>zam (i:=0) (zaT (by decide +kernel)) rfl (Or.inl rfl)) (fun _ _ _ _ _ _=>zbi) (fun _ _ _ _ _ _=>zab)) zac)))
  (zad (zgZ (zab) (zg1 (zaC zaI (pv 2) (zab) (fun _ _=>rfl)) (zab) zfm))
  (zad (zaY PassesOwn.never rfl (zbo rfl T.n_range (zaa (pv 1) zac)) (zam (i:=3) S.nd rfl (Or.inl rfl))
   (zag (zaS (zdm PySem.F.plainAttrs_list PySem.F.slot_list_append PySem.F.type_list_append zaW (pv 2) (zaa (za2 (own := ["steps"]) (caps := [(2,"rows")]) rfl ⟨rfl,rfl,rfl,rfl,⟨⟨rfl,rfl,.inl rfl⟩,trivial⟩⟩ (zav (pv 0)) (fun _ _ _ _ _ _=>zam (i:=0) (zaT (by decide +kernel)) rfl (Or.inl rfl)) (fun _ _ _ _ _ _=>zbi) (fun _ _ _ _ _ _=>zaK C_ways_from (hr.mono (by decide)) rfl (zaa (pv 0) (zaa (zaC (zcy K rfl) (pv 1) (zgT zfg (zab)) (fun _ _=>rfl)) (zaa (zaC (zcy K rfl) (pv 1) (zgT zfg (zab)) (fun _ _=>rfl)) (zaa (zas) zac)))))) zac)))))
  (zag (zaj (pv 2))))),?_⟩
  refine ⟨_,rfl,_,rfl,⟨_,SqL.of ha⟩,fun D hD => ?_⟩
  refine zcA (capv := []) (by rfl) (zak K a ts) (big (by omega)) hD (fun H' s'=>SqL.of (s' _ _ ha)) (fun _=>true) (fun _=>V.int 0) (fun x hx H' R s' h=>h H' (Same.refl _)) (fun x hx _ H' R s' h=>h H' (Same.refl _)) ?_
  intro H1 s1 e1
  have e1':H1 D=some (.lst ((List.range 128).map fun _=>V.int 0)):=by
   rw [e1,List.filter_eq_self.mpr (fun _ _=>rfl)]
   congr 2
   refine List.ext_getElem (by rw [List.length_map,List.length_map,List.length_range]; omega) fun i h1 h2 => ?_
   rw [List.getElem_map,List.getElem_map]
  refine ⟨bigr rfl,fun r nr => ?_⟩
  have s2:Same H1 (upd H1 r (.lst [.ref D])):=Same.new nr
  have hr2:upd H1 r (.lst [.ref D]) r=some (.lst [.ref D]):=zaf
  have hD2:=s2 _ _ e1'
  have hDr:D≠r:=fun z=>by rw [<- z,e1'] at nr; cases nr
  have s12:=s1.trans s2
  have nr0:=s1.free nr
  generalize upd H1 r (.lst [.ref D])=H2 at s12 hr2 hD2 ⊢
  have hix:ixN ((List.range 128).map fun _=>V.int 0).length 0=some 0:=by rw [List.length_map,List.length_range]; decide
  refine ⟨_,rfl,_,_,_,_,rfl,rfl,SqL.of hr2,(show atI [V.ref D] ((0:Nat):Int)=_ from zay rfl),D,_,_,_,rfl,rfl,hD2,hix,?_⟩
  have ew:((List.range 128).map fun _=>V.int 0).set 0 (V.int 1)=wrow (Wy C 0):=by
   unfold wrow
   rw [zgo _ _ (by decide)]
   refine List.map_congr_left fun s _ => ?_
   show _=V.int (((if s=0 then 1 else 0:Nat)):Int)
   split <;> rfl
  rw [ew]
  have hDn0:H D=none:=hD
  have s3:Same H (upd H2 D (.lst (wrow (Wy C 0)))):=s12.put hDn0
  have hD3:upd H2 D (.lst (wrow (Wy C 0))) D=some (.lst (wrow (Wy C 0))):=zaf
  have hr3:upd H2 D (.lst (wrow (Wy C 0))) r=some (.lst [.ref D]):=by rw [zah hDr.symm]; exact hr2
  generalize upd H2 D (.lst (wrow (Wy C 0)))=H3 at s3 hD3 hr3 ⊢
  refine ⟨_,rfl,_,rfl,by omega,by omega,?_⟩
  refine zbz (zaO 0 ((n:Nat):Int).toNat) (fun i σ Hx=>Same H Hx/\∃ (ws:List V) (x3:Option V),σ = [some (.ref a),some (.int (n:Nat)),some (.ref r),x3]/\Hx r=some (.lst ws)/\WaysR (fun z=>z≠r) Hx ws (Wy C) i) ⟨s3,[.ref D],_,rfl,hr3,rfl,fun k hk=>by
    have:k=0:=by omega
    subst this
    exact ⟨D,rfl,hDr,hD3⟩⟩ (fun _ _ _ _ _=>trivial) ?_ ?_
  ·rintro i x σ Hx hx ⟨sx,ws,x3,rfl,hrx,wr⟩
   obtain ⟨hi,rfl⟩:=zbm hx
   have hi':i < n:=by omega
   obtain ⟨qk,eqk,_,hqk⟩:=wr.2 i (Nat.le_refl _)
   have hat:atI ws (-1)=some (.ref qk):=zhl wr.1 eqk
   refine ⟨_,rfl,.inl ⟨rfl,_,SqL.of hrx⟩,_,rfl,_,rfl,⟨_,SqL.of (sx _ _ ha)⟩,fun D2 hD2 => ?_⟩
   refine zcQ (capv := [some (.ref r)]) (by rfl) (zak K a ts) (big (by omega)) hD2 (fun H' s'=>SqL.of (s' _ _ (sx _ _ ha))) (fun _=>true) (fun s=>V.int ((Wy C (i + 1) s:Nat):Int)) (fun _ _ _=>nofun) (fun u y hy H' R s' h=>h H' (Same.refl _)) ?_ ?_
   ·intro u y hy _ H' R s' h
    have hu:u < 128:=by rw [<- htl]; exact (List.getElem?_eq_some_iff.mp hy).1
    obtain ⟨qs,wss,e1,e2,e3⟩:=(tb.same (sx.trans s')).2 u hu
    rw [hy] at e1
    cases e1
    refine ⟨_,rfl,_,rfl,_,rfl,_,_,_,_,rfl,rfl,SqL.of (s' _ _ hrx),hat,_,rfl,_,rfl,_,_,_,_,rfl,rfl,SqL.of (s' _ _ hrx),hat,?_⟩
    refine ⟨qs,qk,qk,Str.ofString "",wss,stp C u,Wy C i,Wy C i,rfl,e2,e3,by have:=zdV h8 u; omega,fun p hp=>zbT gc hu hp,s' _ _ hqk,s' _ _ hqk,fun H'' s'' => ?_⟩
    have e:((stp C u).map (bh (Str.ofString "") (Wy C i) (Wy C i))).sum=Wy C (i + 1) u:=((zgS C (Str.ofString "")).succ i u).symm
    rw [e]
    exact h H'' s''
   intro H4 s4 e4
   have hr4:=s4 _ _ hrx
   have hD2r:D2≠r:=fun z=>by rw [z,hrx] at hD2; cases hD2
   have e4':H4 D2=some (.lst (wrow (Wy C (i + 1)))):=by
    rw [e4,List.filter_eq_self.mpr (fun _ _=>rfl),htl]
    rfl
   refine ⟨r,_,_,rfl,rfl,hr4,Nat.lt_of_lt_of_le (by have:=wr.1; omega:ws.length < 1000) zby,?_⟩
   refine ⟨(sx.trans s4).put nr0,_,_,rfl,zaf,?_⟩
   exact (WaysR.mono wr (fun _ z=>z) fun z o hz e=>by rw [zah hz]; exact s4 _ _ e).snoc (by rw [zah hD2r]; exact e4') hD2r
  ·rintro σ Hx ⟨sx,ws,x3,rfl,hrx,wr⟩
   rw [zbC,show ((n:Nat):Int).toNat=n by omega] at wr
   exact ⟨_,rfl,q r ws Hx sx hrx (wr.mono (fun _ _=>trivial) fun _ _ _ e=>e)⟩
noncomputable def sp_open:Sp:=fun vs H Q _=>∃ (l a b:Addr) (x:Str) (ws:List V) (ps:List (Str×Int)) (A B:Nat->Nat) (p:Str×Int),vs = [.ref l,.ref a,.ref b,.str x]/\H l=some (.lst ws)/\StepsR H ws ps/\ps.length<=100/\(∀ p∈ps,0<=p.2/\p.2.toNat < 128)/\H a=some (.lst (wrow A))/\H b=some (.lst (wrow B))/\ps.find? (fun p=>decide (0 < bh x A B p))=some p/\∀ q H',Same H H'->H' q=some (.tup [.str p.1,.int p.2])->Q (.ref q) H'
theorem find_filterO {α : Type} {ps:List α} {f : α -> Bool} {p d : α} (h:ps.find? f=some p):∃ i,((List.range ps.length).filter fun i=>f (ps.getD i d))[0]?=some i/\ps[i]?=some p:=by
 induction ps with
 | nil=>cases h
 | cons x ps ih =>
  rw [List.length_cons,List.range_succ_eq_map,List.filter_cons]
  by_cases e:f x=true
  ·rw [List.find?_cons_of_pos e] at h
   cases h
   exact ⟨0,by rw [if_pos (by simpa using e)]; rfl,rfl⟩
  ·rw [List.find?_cons_of_neg e] at h
   obtain ⟨i,h1,h2⟩:=ih h
   refine ⟨i + 1,?_,by simpa using h2⟩
   rw [if_neg (by simpa using e),List.filter_map,List.getElem?_map]
   show (((List.range ps.length).filter fun i=>f (ps.getD i d))[0]?).map _=_
   rw [h1]
   rfl
theorem zbv:FnScope ["steps","ways","wanted","name"] ["steps","ways","wanted","name"] (defScope s_first_open_step):=⟨rfl,rfl,rfl,by decide +kernel,rfl,by decide +kernel,by decide +kernel⟩
theorem ok_open (D:DefAt K mg "first_open_step" s_first_open_step) (T:Bn mg) (C_ways_behind:Callee P w K mg base "ways_behind" 1 ["step","ways","wanted","name"] sp_behindw):Callee P w K mg base "first_open_step" 2 ["steps","ways","wanted","name"] sp_open:=by
 refine D.callee zbv (fun _ _ _ _ _ _=>ln4 fun _ _ _ _=>rfl) (fun vs H Q E h => ?_) (fun f cdv A outer s H vs Q E hr h => ?_)
 ·obtain ⟨l,a,b,x,ws,ps,A',B',p,rfl,_⟩:=h
  rfl
 ·obtain ⟨l,a,b,x,ws,ps,A',B',p,rfl,hl,st,hpl,hps,ha,hb,hf,q⟩:=h
  have S:=zbv
  have hlw:=st.length
  refine ⟨_,zag (zaj (zaC zaI (za2 (own := ["step"]) (caps := [(1,"ways"),(2,"wanted"),(3,"name")]) rfl ⟨rfl,rfl,rfl,rfl,⟨⟨rfl,rfl,.inl rfl⟩,⟨rfl,rfl,.inl rfl⟩,⟨rfl,rfl,.inl rfl⟩,trivial⟩⟩ (zav (pv 0)) (fun _ _ _ _ _ _=>zam (i:=0) (zaT (by decide +kernel)) rfl (Or.inl rfl)) (fun _ _ _ _ _ _=>zcH (zar zhp (zaK C_ways_behind (hr.mono (by decide)) rfl (zaa (pv 0) (zaa (pv 1) (zaa (pv 2) (zaa (pv 3) zac))))) (zab) (zaw _))) (fun _ _ _ _ _ _=>pv 0)) (zab) (fun _ _=>rfl))),?_⟩
  refine ⟨_,rfl,_,rfl,⟨_,SqL.of hl⟩,fun D hD => ?_⟩
  have hne:∀ i,i < ws.length->ws.getD i .non ≠ .ref D:=fun i hi z=>by
   obtain ⟨qa,e1,e2⟩:=st.get (List.getElem?_eq_getElem (show i < ps.length by omega))
   rw [List.getD_eq_getElem?_getD,e1] at z
   cases z
   rw [hD] at e2
   cases e2
  refine zcQ (capv := [some (.ref a),some (.ref b),some (.str x)]) (by rfl) (zak K l ws) (big (by omega)) hD (fun H' s'=>SqL.of (s' _ _ hl)) (fun i=>decide (0 < bh x A' B' (ps.getD i ("",0)))) (fun i=>ws.getD i .non) (fun i hi _=>hne i hi) ?_ ?_ ?_
  ·intro i y hy H' R s' h
   have hi:i < ps.length:=by rw [<- hlw]; exact (List.getElem?_eq_some_iff.mp hy).1
   obtain ⟨qa,e1,e2⟩:=st.get (List.getElem?_eq_getElem hi)
   rw [hy] at e1
   cases e1
   obtain ⟨h0,h1⟩:=hps ps[i] (List.getElem_mem hi)
   refine ⟨_,rfl,_,rfl,_,rfl,_,rfl,qa,a,b,x,ps[i],A',B',rfl,s' _ _ e2,h0,h1,s' _ _ ha,s' _ _ hb,_,_,rfl,rfl,_,rfl,?_⟩
   have:=h H' (Same.refl _)
   have e:decide (0 < bh x A' B' (ps.getD i ("",0)))=decide ((0:Int) < ((bh x A' B' ps[i]:Nat):Int)):=by
    rw [List.getD_eq_getElem?_getD,List.getElem?_eq_getElem hi,decide_eq_decide]
    show 0 < bh x A' B' ps[i] ↔ _
    omega
   rw [e] at this
   exact this
  ·intro i y hy _ H' R s' h
   refine ⟨_,rfl,?_⟩
   have:=h H' (Same.refl _)
   rw [List.getD_eq_getElem?_getD,hy] at this
   exact this
  ·intro H' s' e
   obtain ⟨i,h1,h2⟩:=find_filterO (d:=(("",0):Str×Int)) hf
   rw [hlw] at e
   obtain ⟨qa,e1,e2⟩:=st.get h2
   refine ⟨_,_,_,_,rfl,rfl,SqL.of e,zay (j:=0) ?_,q qa H' s' (s' _ _ e2)⟩
   rw [List.getElem?_map,h1,Option.map_some,List.getD_eq_getElem?_getD,e1]
   rfl
noncomputable def sp_layf (ea:Nat->Addr):Sp:=fun vs H Q E=>∃ (a wa wb:Addr) (x:Str) (ts ws ws':List V) (C:Combs) (n:Nat) (B:Nat->Nat->Nat),vs = [.ref a,.ref wa,.ref wb,.str x]/\H a=some (.lst ts)/\TabR H ts C/\GC C/\C.length<=8/\n<=200/\H wa=some (.lst ws)/\WaysR (fun _=>True) H ws (Wy C) n/\H wb=some (.lst ws')/\WaysR (fun _=>True) H ws' B n/\Sel C x B /\
 (if 0 < B n 0 then ∀ (r:Addr) (wl:List V) (H':Hp),Same H H'->H r=none->H' r=some (.lst wl)->LaysR H' wl (fnm C x B n) n->Q (.ref r) H' else E (.ref (ea 14)) none H)
theorem zcO:FnScope ["table","ways","wanted","name","left","layings","shape","place","step"] ["table","ways","wanted","name"] (defScope s_lay_first):=⟨rfl,rfl,rfl,by decide +kernel,rfl,by decide +kernel,by decide +kernel⟩
theorem ok_layf {ea:Nat->Addr} (D:DefAt K mg "lay_first" s_lay_first) (T:Bn mg) (O_NoFilling:Err K mg "NoFilling" (ea 14)) (C_first_open_step:Callee P w K mg base "first_open_step" 2 ["steps","ways","wanted","name"] sp_open):Callee1 P w K mg base "lay_first" 3 ["table","ways","wanted","name"] (sp_layf ea):=by
 refine D.callee1 zcO (fun _ _ _ _ _ _=>ln4 fun _ _ _ _=>rfl) (fun vs H Q E h => ?_) (fun f cdv A outer s H vs Q E hr h => ?_)
 ·obtain ⟨a,wa,wb,x,ts,ws,ws',C,n,B,rfl,_⟩:=h
  rfl
 ·obtain ⟨a,wa,wb,x,ts,ws,ws',C,n,B,rfl,ha,tb,gc,h8,hn,hwa,wr,hwb,wr',sl,q⟩:=h
  have S:=zcO
  have elen:((ws.length:Nat):Int) - 1=((n:Nat):Int):=by rw [wr.1]; omega
  refine ⟨_,zad (zan (i:=4) S.nd rfl (Or.inl rfl) (zax zg3 (zai zau rfl T.n_len PySem.boot_len (zaa (pv 1) zac)) (zab)))
  (zad (zaM (zar zb6 (zaC zaI (zaC zaI (pv 2) (pv 4) (fun _ _=>rfl)) (zab) (fun _ _=>rfl)) (zab) (zaw _))
   (zag (zbb O_NoFilling rfl (zaa (zas) zac)))
   (zao))
  (zad (zan (i:=5) S.nd rfl (Or.inl rfl) (zaU (zac)))
  (zad (zan (i:=6) S.nd rfl (Or.inl rfl) (zab))
  (zad (zaY PassesOwn.leaving rfl (zbo rfl T.n_range (zaa (pv 4) zac)) (zam (i:=7) S.nd rfl (Or.inl rfl))
   (zad (zan (i:=4) S.nd rfl (Or.inl rfl) (zax zg3 (pv 4) (zab)))
   (zad (zan (i:=8) S.nd rfl (Or.inl rfl) (zaK C_first_open_step (hr.mono (by decide)) rfl (zaa (zaC zaI (pv 0) (pv 6) (fun _ _=>rfl)) (zaa (zaC zaI (pv 1) (pv 4) (fun _ _=>rfl)) (zaa (zaC zaI (pv 2) (pv 4) (fun _ _=>rfl)) (zaa (pv 3) zac))))))
   (zcb (zaM (zar zev (zaC za5 (pv 8) (zab) (fun _ _=>rfl)) (zas) (zaw _))
    (zag (zaS (zdm PySem.F.plainAttrs_list PySem.F.slot_list_append PySem.F.type_list_append zaW (pv 5) (zaa (zbR (zaa (pv 7) (zaa (zaC za5 (pv 8) (zab) (fun _ _=>rfl)) zac))) zac))))
    (zao))
   (zcb (zaM (zar zb6 (zaC za5 (pv 8) (zab) (fun _ _=>rfl)) (pv 3) (zaw _))
    (zag (zan (i:=2) S.nd rfl (Or.inl rfl) (pv 1)))
    (zao))
   (zag (zan (i:=6) S.nd rfl (Or.inl rfl) (zaC za5 (pv 8) (zab) (fun _ _=>rfl)))))))))
  (zag (zaj (pv 5))))))),?_⟩
  refine ⟨_,rfl,_,_,rfl,.inl (SqL.of hwa),_,_,rfl,rfl,?_⟩
  obtain ⟨qn,eqn,_,hqn⟩:=wr'.2 n (Nat.le_refl _)
  refine ⟨_,rfl,_,rfl,_,_,_,_,rfl,rfl,SqL.of hwb,by rw [elen]; exact zay eqn,_,_,_,_,rfl,rfl,SqL.of hqn,(show atI (wrow (B n)) ((0:Nat):Int)=_ from zdQ _ (by decide)),rfl,_,rfl,?_⟩
  by_cases hb:0 < B n 0
  case neg =>
   rw [if_neg hb] at q
   have:B n 0=0:=by omega
   rw [this,decide_eq_true (show V.int ((0:Nat):Int)=V.int 0 from rfl)]
   exact iteT ⟨bigr rfl,q⟩
  rw [if_pos hb] at q
  rw [decide_eq_false (show ¬ V.int ((B n 0:Nat):Int)=V.int 0 from fun z=>by injection z with z; omega)]
  refine iteF ?_
  refine ⟨bigr rfl,fun r nr => ?_⟩
  have s1:Same H (upd H r (.lst [])):=Same.new nr
  refine ⟨_,rfl,_,rfl,by rw [elen]; omega,by rw [elen]; omega,?_⟩
  have hok:=zhr gc sl hb
  let wd:Bool->Addr:=fun b=>if b=true then wa else wb
  rw [elen,show ((n:Nat):Int).toNat=n by omega]
  refine zbz (zaO 0 n) (fun i σ Hx=>Same H Hx/\∃ (wl:List V) (x7 x8:Option V),σ = [some (.ref a),some (.ref wa),some (.ref (wd (fw C x B n i).2)),some (.str x),some (.int ((n - i:Nat):Int)),some (.ref r),some (.int (((fw C x B n i).1:Nat):Int)),x7,x8]/\Hx r=some (.lst wl)/\LaysR Hx wl (fnm C x B n) i) ⟨s1,[],_,_,by rw [Nat.sub_zero,<- elen]; rfl,zaf,.nil⟩ (fun _ _ _ _ _=>trivial) ?_ ?_
  ·rintro i y σ Hx hx ⟨sx,wl,x7,x8,rfl,hrx,lr⟩
   obtain ⟨hi,rfl⟩:=zbm hx
   rw [Int.zero_add]
   obtain ⟨h1,h2⟩:=hok i (by omega)
   obtain ⟨g1,g2,g3⟩:=zgy gc sl hb hi
   have hnx:=(hok (i + 1) (by omega)).1
   have e1:((n - i:Nat):Int) - 1=((n - 1 - i:Nat):Int):=by omega
   obtain ⟨qs,wss,t1,t2,t3⟩:=(tb.same sx).2 _ h1
   obtain ⟨qa,a1,_,a2⟩:=wr.2 (n - 1 - i) (by omega)
   have hwd:∃ wsd qb,Hx (wd (fw C x B n i).2)=some (.lst wsd)/\wsd[n - 1 - i]?=some (.ref qb)/\Hx qb=some (.lst (wrow (ro C B (fw C x B n i).2 (n - 1 - i)))):=by
    show ∃ wsd qb,Hx (if (fw C x B n i).2=true then wa else wb)=_/\_/\_
    unfold ro
    cases (fw C x B n i).2 with
    | true=>exact ⟨ws,qa,sx _ _ hwa,a1,sx _ _ a2⟩
    | false =>
     obtain ⟨qb,b1,_,b2⟩:=wr'.2 (n - 1 - i) (by omega)
     exact ⟨ws',qb,sx _ _ hwb,b1,sx _ _ b2⟩
   obtain ⟨wsd,qb,d1,d2,d3⟩:=hwd
   refine ⟨_,rfl,_,_,rfl,rfl,?_⟩
   refine ⟨_,rfl,_,rfl,_,_,_,_,rfl,rfl,SqL.of (sx _ _ ha),zay t1,_,rfl,_,rfl,_,_,_,_,rfl,rfl,SqL.of (sx _ _ hwa),by rw [e1]; exact zay a1,_,rfl,_,rfl,_,_,_,_,rfl,rfl,SqL.of d1,by rw [e1]; exact zay d2,_,rfl,?_⟩
   refine ⟨qs,qa,qb,x,wss,stp C (fw C x B n i).1,Wy C (n - 1 - i),ro C B (fw C x B n i).2 (n - 1 - i),_,rfl,t2,t3,by have:=zdV h8 (fw C x B n i).1; omega,fun p hp=>zbT gc h1 hp,sx _ _ a2,d3,g1,fun qt H2 s2 hqt => ?_⟩
   dsimp only at hqt
   have lr2:LaysR H2 wl (fnm C x B n) i:=lr.mono fun _ _ e=>s2 _ _ e
   have hr2:=s2 _ _ hrx
   have sx2:=sx.trans s2
   have hwl:=lr2.len
   have nr0:H r=none:=nr
   refine ⟨fun σ Hy=>Same H Hy/\Hy qt=some (.tup [.str (fnm C x B n i),.int (((fw C x B n (i + 1)).1:Nat):Int)])/\∃ wl',Hy r=some (.lst wl')/\LaysR Hy wl' (fnm C x B n) (i + 1) /\ σ = [some (.ref a),some (.ref wa),some (.ref (wd (fw C x B n i).2)),some (.str x),some (.int (((n - i:Nat):Int) - 1)),some (.ref r),some (.int (((fw C x B n i).1:Nat):Int)),some (.int ((i:Nat):Int)),some (.ref qt)],?_,?_⟩
   ·refine ⟨_,rfl,_,_,_,_,rfl,rfl,SqT.of hqt,at0,rfl,_,rfl,?_⟩
    by_cases hz:fnm C x B n i=Str.ofString ""
    ·rw [decide_eq_true (by rw [hz])]
     refine iteF ?_
     exact ⟨sx2,hqt,wl,hr2,lr2.skip hz,rfl⟩
    ·rw [decide_eq_false (fun z=>hz (by injection z))]
     refine iteT ?_
     refine ⟨_,rfl,.inl ⟨rfl,_,SqL.of hr2⟩,_,rfl,_,rfl,_,_,_,_,rfl,rfl,SqT.of hqt,at0,bigr rfl,fun tt ntt => ?_⟩
     have s3:Same H2 (upd H2 tt (.tup [.int ((i:Nat):Int),.str (fnm C x B n i)])):=Same.new ntt
     have htt:upd H2 tt (.tup [.int ((i:Nat):Int),.str (fnm C x B n i)]) tt=some (.tup [.int ((i:Nat):Int),.str (fnm C x B n i)]):=zaf
     have hr3:=s3 _ _ hr2
     have hqt3:=s3 _ _ hqt
     have lr3:LaysR (upd H2 tt (.tup [.int ((i:Nat):Int),.str (fnm C x B n i)])) wl (fnm C x B n) i:=lr2.mono fun _ _ e=>s3 _ _ e
     generalize upd H2 tt (.tup [.int ((i:Nat):Int),.str (fnm C x B n i)])=H3 at s3 htt hr3 hqt3 lr3 ⊢
     refine ⟨r,_,_,rfl,rfl,hr3,Nat.lt_of_lt_of_le (by omega:wl.length < 1000) zby,?_⟩
     have kt:∀ qa ys,H3 qa=some (.tup ys)->upd H3 r (.lst (wl ++ [.ref tt])) qa=some (.tup ys):=fun qa ys z=>by rw [zah (fun z2=>by rw [z2,hr3] at z; cases z)]; exact z
     exact ⟨(sx2.trans s3).put nr0,kt _ _ hqt3,_,zaf,(lr3.mono kt).snoc hz (kt _ _ htt),rfl⟩
   rintro σ Hy ⟨sy,hqy,wl',hry,lry,rfl⟩
   refine ⟨fun σ Hz=>Hz=Hy /\ σ = [some (.ref a),some (.ref wa),some (.ref (wd (fw C x B n (i + 1)).2)),some (.str x),some (.int (((n - i:Nat):Int) - 1)),some (.ref r),some (.int (((fw C x B n i).1:Nat):Int)),some (.int ((i:Nat):Int)),some (.ref qt)],?_,?_⟩
   ·refine ⟨_,rfl,_,_,_,_,rfl,rfl,SqT.of hqy,at0,_,rfl,rfl,_,rfl,?_⟩
    rw [g2]
    by_cases hz:fnm C x B n i=x
    ·rw [decide_eq_true (show V.str (fnm C x B n i)=V.str x by rw [hz]),decide_eq_true hz,Bool.or_true]
     refine iteT ?_
     exact ⟨_,rfl,rfl,rfl⟩
    ·rw [decide_eq_false (show ¬ V.str (fnm C x B n i)=V.str x from fun z=>hz (by injection z)),decide_eq_false hz,Bool.or_false]
     refine iteF ?_
     exact ⟨rfl,rfl⟩
   rintro σ Hz ⟨rfl,rfl⟩
   refine ⟨_,rfl,_,_,_,_,rfl,rfl,SqT.of hqy,at1,?_⟩
   refine ⟨sy,wl',some (.int ((i:Nat):Int)),some (.ref qt),?_,hry,lry⟩
   rw [e1,show n - (i + 1)=n - 1 - i by omega]
   rfl
  ·rintro σ Hx ⟨sx,wl,x7,x8,rfl,hrx,lr⟩
   rw [zbC] at lr
   exact ⟨_,rfl,q r wl Hx sx nr hrx lr⟩
noncomputable def sp_chk (ea:Nat->Addr):Sp:=fun vs H Q E=>∃ n,vs = [.int n]/\(if 0<=n/\n<=200 then Q .non H else E (.ref (ea 13)) none H)
theorem zbU:FnScope ["length"] ["length"] (defScope s_check_length):=⟨rfl,rfl,rfl,by decide +kernel,rfl,by decide +kernel,by decide +kernel⟩
theorem ok_chk {ea:Nat->Addr} (D:DefAt K mg "check_length" s_check_length) (T:Bn mg) (V_MOST_FILLED:∃ t,mg "MOST_FILLED" = some (.int 200 t)) (O_BadLength:Err K mg "BadLength" (ea 13)):Callee1 P w K mg base "check_length" 1 ["length"] (sp_chk ea):=by
 refine D.callee1 zbU (fun _ _ _ _ _ _=>ln1 fun _=>rfl) (fun vs H Q E h => ?_) (fun f cdv A outer s H vs Q E hr h => ?_)
 ·obtain ⟨n,rfl,_⟩:=h
  rfl
 ·obtain ⟨n,rfl,q⟩:=h
  have S:=zbU
  refine ⟨_,zag (zaM (zbn (zcU zdo zdo (zab) (pv 0) (zbG rfl V_MOST_FILLED)))
   (zag (zbb O_BadLength rfl (zaa (zas) zac)))
   (zao)),?_⟩
  refine ⟨_,rfl,_,_,rfl,rfl,_,rfl,?_⟩
  refine ite2 (fun h0 => ?_) (fun h0 => ?_)
  rotate_left
  ·have h0:¬ (0:Int)<=n:=by simpa using h0
   rw [if_neg (fun z=>h0 z.1)] at q
   exact ⟨_,rfl,iteT ⟨bigr rfl,q⟩⟩
  have h0:(0:Int)<=n:=by simpa using h0
  refine ⟨_,_,rfl,rfl,_,rfl,?_⟩
  by_cases h1:n<=200
  case neg =>
   rw [if_neg (fun z=>h1 z.2)] at q
   rw [decide_eq_false h1]
   exact iteT ⟨bigr rfl,q⟩
  rw [if_pos ⟨h0,h1⟩] at q
  rw [decide_eq_true h1]
  exact iteF q
noncomputable def sp_ffill (ea:Nat->Addr) (C:Addr):Sp:=fun vs H Q E=>∃ b l G cs past n,vs = [.ref b,.int n]/\Bk C G H b l cs past /\
 (if 0<=n/\n<=200 then (if 0 < Wy (srt cs) n.toNat 0 then ∀ (r:Addr) (wl:List V) (H':Hp),Same H H'->H r=none->H' r=some (.lst wl)->LaysR H' wl (fnm (srt cs) (Str.ofString "") (Wy (srt cs)) n.toNat) n.toNat->Q (.ref r) H' else ∀ H',Same H H'->E (.ref (ea 14)) none H') else E (.ref (ea 13)) none H)
theorem zbN:FnScope ["book","length","table","ways"] ["book","length"] (defScope s_first_filling):=⟨rfl,rfl,rfl,by decide +kernel,rfl,by decide +kernel,by decide +kernel⟩
theorem ok_ffill {ea:Nat->Addr} {C:Addr} (D:DefAt K mg "first_filling" s_first_filling) (T:Bn mg) (C_check_length:Callee1 P w K mg base "check_length" 1 ["length"] (sp_chk ea)) (C_step_table:Callee1 P w K mg base "step_table" 4 ["book"] (sp_table C)) (C_ways_to_close:Callee P w K mg base "ways_to_close" 3 ["table","length"] sp_close) (C_lay_first:Callee1 P w K mg base "lay_first" 3 ["table","ways","wanted","name"] (sp_layf ea)):Callee1 P w K mg base "first_filling" 5 ["book","length"] (sp_ffill ea C):=by
 refine D.callee1 zbN (fun _ _ _ _ _ _=>ln2 fun _ _=>rfl) (fun vs H Q E h => ?_) (fun f cdv A outer s H vs Q E hr h => ?_)
 ·obtain ⟨b,l,G,cs,past,n,rfl,_⟩:=h
  rfl
 ·obtain ⟨b,l,G,cs,past,n,rfl,B,q⟩:=h
  have S:=zbN
  obtain ⟨gc,h8⟩:=zcF B
  refine ⟨_,zad (zaS (zbf C_check_length (hr.mono (by decide)) (by first | exact zat | exact zbg | exact zaz) rfl (zaa (pv 1) zac)))
  (zad (zan (i:=2) S.nd rfl (Or.inl rfl) (zbf C_step_table (hr.mono (by decide)) (by first | exact zat | exact zbg | exact zaz) rfl (zaa (pv 0) zac)))
  (zad (zan (i:=3) S.nd rfl (Or.inl rfl) (zaK C_ways_to_close (hr.mono (by decide)) rfl (zaa (pv 2) (zaa (pv 1) zac))))
  (zag (zaj (zbf C_lay_first (hr.mono (by decide)) (by first | exact zat | exact zbg | exact zaz) rfl (zaa (pv 2) (zaa (pv 3) (zaa (pv 3) (zaa (zas) zac))))))))),?_⟩
  refine ⟨_,rfl,n,rfl,?_⟩
  by_cases hn:0<=n/\n<=200
  case neg =>
   rw [if_neg hn] at q ⊢
   exact q
  rw [if_pos hn] at q ⊢
  obtain ⟨k,rfl⟩:=Int.eq_ofNat_of_zero_le hn.1
  rw [show ((k:Nat):Int).toNat=k by omega] at q
  refine ⟨_,rfl,b,l,G,cs,past,rfl,B,fun a H1 ts s1 na ha tb => ?_⟩
  refine ⟨_,rfl,_,rfl,a,ts,srt cs,k,rfl,ha,tb,gc,h8,by omega,fun r ws H2 s2 hr2 wr => ?_⟩
  have s12:=s1.trans s2
  refine ⟨_,rfl,_,rfl,_,rfl,a,r,r,Str.ofString "",ts,ws,ws,srt cs,k,Wy (srt cs),rfl,s2 _ _ ha,tb.same s2,gc,h8,by omega,hr2,wr,hr2,wr,zgS _ _,?_⟩
  by_cases hw:0 < Wy (srt cs) k 0
  ·rw [if_pos hw] at q ⊢
   intro p wl H3 s3 np hp lr
   exact q p wl H3 (s12.trans s3) (s12.free np) hp lr
  ·rw [if_neg hw] at q ⊢
   exact q H2 s12
theorem cut_last {ws:List V} {n:Nat} (h:ws.length=n + 1):cutV ws none (some (-1))=ws.take n:=by
 unfold cutV
 rw [h]
 show List.take ((if (-1:Int) < 0 then ((-1:Int) + ((n + 1:Nat):Int)).toNat else min (-1:Int).toNat (n + 1)) - 0) (ws.drop 0)=_
 rw [if_pos (by decide),List.drop_zero]
 congr 1
 omega
noncomputable def sp_layw:Sp:=fun vs H Q _=>∃ (a wa:Addr) (x:Str) (ts ws:List V) (C:Combs) (n:Nat),vs = [.ref a,.ref wa,.str x]/\H a=some (.lst ts)/\TabR H ts C/\GC C/\C.length<=8/\n<=200/\H wa=some (.lst ws)/\WaysR (fun _=>True) H ws (Wy C) n/\∀ (r:Addr) (ws':List V) (H':Hp),Same H H'->H' r=some (.lst ws')->WaysR (fun _=>True) H' ws' (Ww C x) n->Q (.ref r) H'
theorem zb7:FnScope ["table","ways","name","rows","row"] ["table","ways","name"] (defScope s_ways_to_lay):=⟨rfl,rfl,rfl,by decide +kernel,rfl,by decide +kernel,by decide +kernel⟩
theorem ok_layw (D:DefAt K mg "ways_to_lay" s_ways_to_lay) (T:Bn mg) (C_ways_from:Callee P w K mg base "ways_from" 2 ["steps","ways","wanted","name"] sp_from):Callee P w K mg base "ways_to_lay" 3 ["table","ways","name"] sp_layw:=by
 refine D.callee zb7 (fun _ _ _ _ _ _=>ln3 fun _ _ _=>rfl) (fun vs H Q E h => ?_) (fun f cdv A outer s H vs Q E hr h => ?_)
 ·obtain ⟨a,wa,x,ts,ws,C,n,rfl,_⟩:=h
  rfl
 ·obtain ⟨a,wa,x,ts,wsA,C,n,rfl,ha,tb,gc,h8,hn,hwa,wrA,q⟩:=h
  have S:=zb7
  have htl:=tb.1
  refine ⟨_,zad (zan (i:=3) S.nd rfl (Or.inr rfl) (zaU (zaa (za2 (own := ["steps"]) (caps := []) rfl ⟨rfl,rfl,rfl,rfl,trivial⟩ (zav (pv 0)) (fun _ _ _ _ _ _=>zam (i:=0) (zaT (by decide +kernel)) rfl (Or.inl rfl)) (fun _ _ _ _ _ _=>zbi) (fun _ _ _ _ _ _=>zab)) zac)))
  (zad (zaY PassesOwn.never rfl (zav (zfz zfV (pv 1) (zgf) (zge (zgT zfg (zab))))) (zam (i:=4) S.nd rfl (Or.inr rfl))
   (zag (zaS (zdm PySem.F.plainAttrs_list PySem.F.slot_list_append PySem.F.type_list_append zaW (pv 3) (zaa (za2 (own := ["steps"]) (caps := [(4,"row"),(3,"rows"),(2,"name")]) rfl ⟨rfl,rfl,rfl,rfl,⟨⟨rfl,rfl,.inl rfl⟩,⟨rfl,rfl,.inl rfl⟩,⟨rfl,rfl,.inl rfl⟩,trivial⟩⟩ (zav (pv 0)) (fun _ _ _ _ _ _=>zam (i:=0) (zaT (by decide +kernel)) rfl (Or.inl rfl)) (fun _ _ _ _ _ _=>zbi) (fun _ _ _ _ _ _=>zaK C_ways_from (hr.mono (by decide)) rfl (zaa (pv 0) (zaa (pv 1) (zaa (zaC (zcy K rfl) (pv 2) (zgT zfg (zab)) (fun _ _=>rfl)) (zaa (pv 3) zac)))))) zac)))))
  (zag (zaj (pv 3)))),?_⟩
  refine ⟨_,rfl,_,rfl,⟨_,SqL.of ha⟩,fun D hD => ?_⟩
  refine zcA (capv := []) (by rfl) (zak K a ts) (big (by omega)) hD (fun H' s'=>SqL.of (s' _ _ ha)) (fun _=>true) (fun _=>V.int 0) (fun x hx H' R s' h=>h H' (Same.refl _)) (fun x hx _ H' R s' h=>h H' (Same.refl _)) ?_
  intro H1 s1 e1
  have e1':H1 D=some (.lst (wrow (Ww C x 0))):=by
   rw [e1,List.filter_eq_self.mpr (fun _ _=>rfl)]
   unfold wrow
   congr 2
   refine List.ext_getElem (by rw [List.length_map,List.length_map,List.length_range]; omega) fun i h1 h2 => ?_
   rw [List.getElem_map,List.getElem_map]
   rfl
  refine ⟨bigr rfl,fun r nr => ?_⟩
  have s2:Same H1 (upd H1 r (.lst [.ref D])):=Same.new nr
  have hr2:upd H1 r (.lst [.ref D]) r=some (.lst [.ref D]):=zaf
  have hD2:=s2 _ _ e1'
  have hDr:D≠r:=fun z=>by rw [<- z,e1'] at nr; cases nr
  have s12:=s1.trans s2
  have nr0:=s1.free nr
  generalize upd H1 r (.lst [.ref D])=H2 at s12 hr2 hD2 ⊢
  refine ⟨_,rfl,_,rfl,_,rfl,_,_,rfl,SqL.of (s12 _ _ hwa),fun sl nsl => ?_⟩
  rw [cut_last wrA.1]
  have s3:Same H2 (upd H2 sl (.lst (wsA.take n))):=Same.new nsl
  have hsl:upd H2 sl (.lst (wsA.take n)) sl=some (.lst (wsA.take n)):=zaf
  have hslr:sl≠r:=fun z=>by rw [z,hr2] at nsl; cases nsl
  have hr3:=s3 _ _ hr2
  have hD3:=s3 _ _ hD2
  have s13:=s12.trans s3
  generalize upd H2 sl (.lst (wsA.take n))=H3 at s13 hsl hr3 hD3 ⊢
  have hlen:(wsA.take n).length=n:=by rw [List.length_take,wrA.1]; omega
  refine ⟨_,rfl,⟨_,SqL.of hsl⟩,?_⟩
  refine zbz (zak K sl (wsA.take n)) (fun i σ Hx=>Same H Hx/\Hx sl=some (.lst (wsA.take n))/\∃ (ws:List V) (x4:Option V),σ = [some (.ref a),some (.ref wa),some (.str x),some (.ref r),x4]/\Hx r=some (.lst ws)/\WaysR (fun z=>z≠r) Hx ws (Ww C x) i) ⟨s13,hsl,[.ref D],_,rfl,hr3,rfl,fun k hk=>by
    have:k=0:=by omega
    subst this
    exact ⟨D,rfl,hDr,hD3⟩⟩ (fun u σ Hz _ h=>SqL.of h.2.1) ?_ ?_
  ·rintro i y σ Hx hy ⟨sx,hslx,ws,x4,rfl,hrx,wr⟩
   have hi':i < n:=by rw [<- hlen]; exact (List.getElem?_eq_some_iff.mp hy).1
   obtain ⟨qa,eqa,_,hqa⟩:=wrA.2 i (by omega)
   rw [List.getElem?_take,if_pos hi',eqa] at hy
   cases hy
   obtain ⟨qk,eqk,_,hqk⟩:=wr.2 i (Nat.le_refl _)
   have hat:atI ws (-1)=some (.ref qk):=zhl wr.1 eqk
   refine ⟨_,rfl,.inl ⟨rfl,_,SqL.of hrx⟩,_,rfl,_,rfl,⟨_,SqL.of (sx _ _ ha)⟩,fun D2 hD2 => ?_⟩
   refine zcQ (capv := [some (.ref qa),some (.ref r),some (.str x)]) (by rfl) (zak K a ts) (big (by omega)) hD2 (fun H' s'=>SqL.of (s' _ _ (sx _ _ ha))) (fun _=>true) (fun s=>V.int ((Ww C x (i + 1) s:Nat):Int)) (fun _ _ _=>nofun) (fun u y hy H' R s' h=>h H' (Same.refl _)) ?_ ?_
   ·intro u y hy _ H' R s' h
    have hu:u < 128:=by rw [<- htl]; exact (List.getElem?_eq_some_iff.mp hy).1
    obtain ⟨qs,wss,e1,e2,e3⟩:=(tb.same (sx.trans s')).2 u hu
    rw [hy] at e1
    cases e1
    refine ⟨_,rfl,_,rfl,_,rfl,_,rfl,_,_,_,_,rfl,rfl,SqL.of (s' _ _ hrx),hat,_,rfl,?_⟩
    refine ⟨qs,qa,qk,x,wss,stp C u,Wy C i,Ww C x i,rfl,e2,e3,by have:=zdV h8 u; omega,fun p hp=>zbT gc hu hp,s' _ _ (sx _ _ hqa),s' _ _ hqk,fun H'' s'' => ?_⟩
    exact h H'' s''
   intro H4 s4 e4
   have hr4:=s4 _ _ hrx
   have hD2r:D2≠r:=fun z=>by rw [z,hrx] at hD2; cases hD2
   have e4':H4 D2=some (.lst (wrow (Ww C x (i + 1)))):=by
    rw [e4,List.filter_eq_self.mpr (fun _ _=>rfl),htl]
    rfl
   refine ⟨r,_,_,rfl,rfl,hr4,Nat.lt_of_lt_of_le (by have:=wr.1; omega:ws.length < 1000) zby,?_⟩
   refine ⟨(sx.trans s4).put nr0,by rw [zah hslr]; exact s4 _ _ hslx,_,_,rfl,zaf,?_⟩
   exact (WaysR.mono wr (fun _ z=>z) fun z o hz e=>by rw [zah hz]; exact s4 _ _ e).snoc (by rw [zah hD2r]; exact e4') hD2r
  ·rintro σ Hx ⟨sx,hslx,ws,x4,rfl,hrx,wr⟩
   rw [hlen] at wr
   exact ⟨_,rfl,q r ws Hx sx hrx (wr.mono (fun _ _=>trivial) fun _ _ _ e=>e)⟩
noncomputable def sp_ffillw (ea:Nat->Addr) (C:Addr):Sp:=fun vs H Q E=>∃ b l G cs past x n,vs = [.ref b,.str x,.int n]/\Bk C G H b l cs past /\
 (if (cGet cs x).isSome=true then (if 0<=n/\n<=200 then (if 0 < Ww (srt cs) x n.toNat 0 then ∀ (r:Addr) (wl:List V) (H':Hp),Same H H'->H r=none->H' r=some (.lst wl)->LaysR H' wl (fnm (srt cs) x (Ww (srt cs) x) n.toNat) n.toNat->Q (.ref r) H' else ∀ H',Same H H'->E (.ref (ea 14)) none H') else E (.ref (ea 13)) none H) else E (.ref (ea 4)) none H)
theorem zbe:FnScope ["book","name","length","table","ways"] ["book","name","length"] (defScope s_first_filling_with):=⟨rfl,rfl,rfl,by decide +kernel,rfl,by decide +kernel,by decide +kernel⟩
theorem ok_ffillw {ea:Nat->Addr} {C:Addr} (D:DefAt K mg "first_filling_with" s_first_filling_with) (T:Bn mg) (BA:BookAt K C) (M_check_comb:Method P w K mg base C "check_comb" (CX1 P w) 1 ["self","name"] (sp_check ea C)) (C_check_length:Callee1 P w K mg base "check_length" 1 ["length"] (sp_chk ea)) (C_step_table:Callee1 P w K mg base "step_table" 4 ["book"] (sp_table C)) (C_ways_to_close:Callee P w K mg base "ways_to_close" 3 ["table","length"] sp_close) (C_ways_to_lay:Callee P w K mg base "ways_to_lay" 3 ["table","ways","name"] sp_layw) (C_lay_first:Callee1 P w K mg base "lay_first" 3 ["table","ways","wanted","name"] (sp_layf ea)):Callee1 P w K mg base "first_filling_with" 5 ["book","name","length"] (sp_ffillw ea C):=by
 refine D.callee1 zbe (fun _ _ _ _ _ _=>ln3 fun _ _ _=>rfl) (fun vs H Q E h => ?_) (fun f cdv A outer s H vs Q E hr h => ?_)
 ·obtain ⟨b,l,G,cs,past,x,n,rfl,_⟩:=h
  rfl
 ·obtain ⟨b,l,G,cs,past,x,n,rfl,B,q⟩:=h
  have S:=zbe
  have B_cls:=BA.cls
  obtain ⟨gc,h8⟩:=zcF B
  obtain ⟨dx,d,hb,_⟩:=id B.ins
  refine ⟨_,zad (zaS (ze0 (pv 0) B_cls M_check_comb (hr.mono (by decide)) (by first | exact zdn | exact zat | exact zbg | exact zaz) (zaa (pv 1) zac)))
  (zad (zaS (zbf C_check_length (hr.mono (by decide)) (by first | exact zat | exact zbg | exact zaz) rfl (zaa (pv 2) zac)))
  (zad (zan (i:=3) S.nd rfl (Or.inl rfl) (zbf C_step_table (hr.mono (by decide)) (by first | exact zat | exact zbg | exact zaz) rfl (zaa (pv 0) zac)))
  (zad (zan (i:=4) S.nd rfl (Or.inl rfl) (zaK C_ways_to_close (hr.mono (by decide)) rfl (zaa (pv 3) (zaa (pv 2) zac))))
  (zag (zaj (zbf C_lay_first (hr.mono (by decide)) (by first | exact zat | exact zbg | exact zaz) rfl (zaa (pv 3) (zaa (pv 4) (zaa (zaK C_ways_to_lay (hr.mono (by decide)) rfl (zaa (pv 3) (zaa (pv 4) (zaa (pv 1) zac)))) (zaa (pv 1) zac)))))))))),?_⟩
  refine ⟨_,rfl,_,_,_,rfl,hb,rfl,_,rfl,b,l,G,cs,past,x,rfl,B,?_⟩
  by_cases hx:(cGet cs x).isSome=true
  case neg =>
   rw [if_neg hx] at q ⊢
   exact q
  rw [if_pos hx] at q ⊢
  refine ⟨_,rfl,n,rfl,?_⟩
  by_cases hn:0<=n/\n<=200
  case neg =>
   rw [if_neg hn] at q ⊢
   exact q
  rw [if_pos hn] at q ⊢
  obtain ⟨k,rfl⟩:=Int.eq_ofNat_of_zero_le hn.1
  rw [show ((k:Nat):Int).toNat=k by omega] at q
  refine ⟨_,rfl,b,l,G,cs,past,rfl,B,fun a H1 ts s1 na ha tb => ?_⟩
  refine ⟨_,rfl,_,rfl,a,ts,srt cs,k,rfl,ha,tb,gc,h8,by omega,fun r ws H2 s2 hr2 wr => ?_⟩
  have s12:=s1.trans s2
  refine ⟨_,rfl,_,rfl,_,rfl,_,rfl,_,rfl,a,r,x,ts,ws,srt cs,k,rfl,s2 _ _ ha,tb.same s2,gc,h8,by omega,hr2,wr,fun r' ws' H3 s3 hr3 wr' => ?_⟩
  have s13:=s12.trans s3
  have wr3:WaysR (fun _=>True) H3 ws (Wy (srt cs)) k:=wr.mono (fun _ z=>z) fun _ _ _ e=>s3 _ _ e
  refine ⟨_,rfl,a,r,r',x,ts,ws,ws',srt cs,k,Ww (srt cs) x,rfl,s3 _ _ (s2 _ _ ha),tb.same (s2.trans s3),gc,h8,by omega,s3 _ _ hr2,wr3,hr3,wr',zhu _ _,?_⟩
  by_cases hw:0 < Ww (srt cs) x k 0
  ·rw [if_pos hw] at q ⊢
   intro p wl H4 s4 np hp lr
   exact q p wl H4 (s13.trans s4) (s13.free np) hp lr
  ·rw [if_neg hw] at q ⊢
   exact q H3 s13
noncomputable def sp_count (ea:Nat->Addr) (C:Addr):Sp:=fun vs H Q E=>∃ b l G cs past n,vs = [.ref b,.int n]/\Bk C G H b l cs past /\
 (if 0<=n/\n<=200 then ∀ H',Same H H'->Q (.int ((Wy (srt cs) n.toNat 0:Nat):Int)) H' else E (.ref (ea 13)) none H)
theorem zbB:FnScope ["book","length"] ["book","length"] (defScope s_count_fillings):=⟨rfl,rfl,rfl,by decide +kernel,rfl,by decide +kernel,by decide +kernel⟩
theorem ok_count {ea:Nat->Addr} {C:Addr} (D:DefAt K mg "count_fillings" s_count_fillings) (T:Bn mg) (C_check_length:Callee1 P w K mg base "check_length" 1 ["length"] (sp_chk ea)) (C_step_table:Callee1 P w K mg base "step_table" 4 ["book"] (sp_table C)) (C_ways_to_close:Callee P w K mg base "ways_to_close" 3 ["table","length"] sp_close):Callee1 P w K mg base "count_fillings" 5 ["book","length"] (sp_count ea C):=by
 refine D.callee1 zbB (fun _ _ _ _ _ _=>ln2 fun _ _=>rfl) (fun vs H Q E h => ?_) (fun f cdv A outer s H vs Q E hr h => ?_)
 ·obtain ⟨b,l,G,cs,past,n,rfl,_⟩:=h
  rfl
 ·obtain ⟨b,l,G,cs,past,n,rfl,B,q⟩:=h
  have S:=zbB
  obtain ⟨gc,h8⟩:=zcF B
  refine ⟨_,zad (zaS (zbf C_check_length (hr.mono (by decide)) (by first | exact zat | exact zbg | exact zaz) rfl (zaa (pv 1) zac)))
  (zag (zaj (zaC zaI (zaC zaI (zaK C_ways_to_close (hr.mono (by decide)) rfl (zaa (zbf C_step_table (hr.mono (by decide)) (by first | exact zat | exact zbg | exact zaz) rfl (zaa (pv 0) zac)) (zaa (pv 1) zac))) (pv 1) (fun _ _=>rfl)) (zab) (fun _ _=>rfl)))),?_⟩
  refine ⟨_,rfl,n,rfl,?_⟩
  by_cases hn:0<=n/\n<=200
  case neg =>
   rw [if_neg hn] at q ⊢
   exact q
  rw [if_pos hn] at q ⊢
  obtain ⟨k,rfl⟩:=Int.eq_ofNat_of_zero_le hn.1
  rw [show ((k:Nat):Int).toNat=k by omega] at q
  refine ⟨_,rfl,b,l,G,cs,past,rfl,B,fun a H1 ts s1 na ha tb => ?_⟩
  refine ⟨_,rfl,a,ts,srt cs,k,rfl,ha,tb,gc,h8,by omega,fun r ws H2 s2 hr2 wr => ?_⟩
  obtain ⟨qk,e1,_,e2⟩:=wr.2 k (Nat.le_refl _)
  exact ⟨_,rfl,_,_,_,_,rfl,rfl,SqL.of hr2,zay e1,_,_,_,_,rfl,rfl,SqL.of e2,(show atI (wrow (Wy (srt cs) k)) ((0:Nat):Int)=_ from zdQ _ (by decide)),q H2 (s1.trans s2)⟩
noncomputable def sp_countw (ea:Nat->Addr) (C:Addr):Sp:=fun vs H Q E=>∃ b l G cs past x n,vs = [.ref b,.str x,.int n]/\Bk C G H b l cs past /\
 (if (cGet cs x).isSome=true then (if 0<=n/\n<=200 then ∀ H',Same H H'->Q (.int ((Ww (srt cs) x n.toNat 0:Nat):Int)) H' else E (.ref (ea 13)) none H) else E (.ref (ea 4)) none H)
theorem za6:FnScope ["book","name","length","table"] ["book","name","length"] (defScope s_count_fillings_with):=⟨rfl,rfl,rfl,by decide +kernel,rfl,by decide +kernel,by decide +kernel⟩
theorem ok_countw {ea:Nat->Addr} {C:Addr} (D:DefAt K mg "count_fillings_with" s_count_fillings_with) (T:Bn mg) (BA:BookAt K C) (M_check_comb:Method P w K mg base C "check_comb" (CX1 P w) 1 ["self","name"] (sp_check ea C)) (C_check_length:Callee1 P w K mg base "check_length" 1 ["length"] (sp_chk ea)) (C_step_table:Callee1 P w K mg base "step_table" 4 ["book"] (sp_table C)) (C_ways_to_close:Callee P w K mg base "ways_to_close" 3 ["table","length"] sp_close) (C_ways_to_lay:Callee P w K mg base "ways_to_lay" 3 ["table","ways","name"] sp_layw):Callee1 P w K mg base "count_fillings_with" 5 ["book","name","length"] (sp_countw ea C):=by
 refine D.callee1 za6 (fun _ _ _ _ _ _=>ln3 fun _ _ _=>rfl) (fun vs H Q E h => ?_) (fun f cdv A outer s H vs Q E hr h => ?_)
 ·obtain ⟨b,l,G,cs,past,x,n,rfl,_⟩:=h
  rfl
 ·obtain ⟨b,l,G,cs,past,x,n,rfl,B,q⟩:=h
  have S:=za6
  have B_cls:=BA.cls
  obtain ⟨gc,h8⟩:=zcF B
  obtain ⟨dx,d,hb,_⟩:=id B.ins
  refine ⟨_,zad (zaS (ze0 (pv 0) B_cls M_check_comb (hr.mono (by decide)) (by first | exact zdn | exact zat | exact zbg | exact zaz) (zaa (pv 1) zac)))
  (zad (zaS (zbf C_check_length (hr.mono (by decide)) (by first | exact zat | exact zbg | exact zaz) rfl (zaa (pv 2) zac)))
  (zad (zan (i:=3) S.nd rfl (Or.inl rfl) (zbf C_step_table (hr.mono (by decide)) (by first | exact zat | exact zbg | exact zaz) rfl (zaa (pv 0) zac)))
  (zag (zaj (zaC zaI (zaC zaI (zaK C_ways_to_lay (hr.mono (by decide)) rfl (zaa (pv 3) (zaa (zaK C_ways_to_close (hr.mono (by decide)) rfl (zaa (pv 3) (zaa (pv 2) zac))) (zaa (pv 1) zac)))) (pv 2) (fun _ _=>rfl)) (zab) (fun _ _=>rfl)))))),?_⟩
  refine ⟨_,rfl,_,_,_,rfl,hb,rfl,_,rfl,b,l,G,cs,past,x,rfl,B,?_⟩
  by_cases hx:(cGet cs x).isSome=true
  case neg =>
   rw [if_neg hx] at q ⊢
   exact q
  rw [if_pos hx] at q ⊢
  refine ⟨_,rfl,n,rfl,?_⟩
  by_cases hn:0<=n/\n<=200
  case neg =>
   rw [if_neg hn] at q ⊢
   exact q
  rw [if_pos hn] at q ⊢
  obtain ⟨k,rfl⟩:=Int.eq_ofNat_of_zero_le hn.1
  rw [show ((k:Nat):Int).toNat=k by omega] at q
  refine ⟨_,rfl,b,l,G,cs,past,rfl,B,fun a H1 ts s1 na ha tb => ?_⟩
  refine ⟨_,rfl,_,rfl,_,rfl,a,ts,srt cs,k,rfl,ha,tb,gc,h8,by omega,fun r ws H2 s2 hr2 wr => ?_⟩
  have s12:=s1.trans s2
  refine ⟨_,rfl,a,r,x,ts,ws,srt cs,k,rfl,s2 _ _ ha,tb.same s2,gc,h8,by omega,hr2,wr,fun r' ws' H3 s3 hr3 wr' => ?_⟩
  obtain ⟨qk,e1,_,e2⟩:=wr'.2 k (Nat.le_refl _)
  exact ⟨_,rfl,_,_,_,_,rfl,rfl,SqL.of hr3,zay e1,_,_,_,_,rfl,rfl,SqL.of e2,(show atI (wrow (Ww (srt cs) x k)) ((0:Nat):Int)=_ from zdQ _ (by decide)),q H3 (s12.trans s3)⟩
structure Ea (mg:Str->Option Value) (ea:Nat->Addr):Prop where
 n0:mg "BadName" = some (.ref (ea 0))
 n1:mg "BadTeeth" = some (.ref (ea 1))
 n2:mg "NameTaken" = some (.ref (ea 2))
 n3:mg "BookFull" = some (.ref (ea 3))
 n4:mg "NoComb" = some (.ref (ea 4))
 n5:mg "BadTooth" = some (.ref (ea 5))
 n6:mg "ToothThere" = some (.ref (ea 6))
 n7:mg "FirstTooth" = some (.ref (ea 7))
 n8:mg "ToothMissing" = some (.ref (ea 8))
 n9:mg "DeedsFull" = some (.ref (ea 9))
 n10:mg "NothingDone" = some (.ref (ea 10))
 n11:mg "BadShape" = some (.ref (ea 11))
 n12:mg "BadPlace" = some (.ref (ea 12))
 n13:mg "BadLength" = some (.ref (ea 13))
 n14:mg "NoFilling" = some (.ref (ea 14))
noncomputable def spKind (K:W.Frag) (ea:Nat->Addr):Addr->Value->Sp:=fun e c vs H Q _=>vs = [.ref e]/\∃ D j,c = .ref D/\KindF K ea D j/\∀ p H',Same H H'->H p=none->H' p=some (.lst [.str (errName j)])->Q (.ref p) H'
noncomputable def kb (j i:Nat):V := .bl (decide (i=j))
noncomputable def kBools (j:Nat):List V:=(List.range 15).map (kb j)
theorem kBools_eq (j:Nat):kBools j = [kb j 0,kb j 1,kb j 2,kb j 3,kb j 4,kb j 5,kb j 6,kb j 7,kb j 8,kb j 9,kb j 10,kb j 11,kb j 12,kb j 13,kb j 14]:=rfl
noncomputable def isJ (j:Nat) (v:V):Bool:=match v with
 | .int t=>decide (t.toNat=j)
 | _=>false
noncomputable def wordJ (v:V):V:=match v with
 | .int t => .str (errName t.toNat)
 | _ => .non
theorem kind_res {j:Nat} (h:j < 15):(((List.range (15:Int).toNat).map fun i=>V.int (0 + ((i:Nat):Int))).filter (isJ j)).map wordJ = [.str (errName j)]:=by
 have all:∀ j∈List.range 15,(((List.range (15:Int).toNat).map fun i=>V.int (0 + ((i:Nat):Int))).filter (isJ j)).map wordJ = [.str (errName j)]:=by decide +kernel
 exact all j (List.mem_range.mpr h)
theorem zf3:FnScope ["_law_e","_law_is_one","_law_words"] ["_law_e"] (defScope s_kind):=⟨rfl,rfl,rfl,by decide +kernel,rfl,by decide +kernel,by decide +kernel⟩
theorem ok_kind (D:DefAt K mg "_law_kind" s_kind) (T:Bn mg) {ea:Nat->Addr} (EA:Ea mg ea):HCallee P w K mg base "_law_kind" 1 ["_law_e"] (spKind K ea):=by
 have V_BadName:=EA.n0
 have V_BadTeeth:=EA.n1
 have V_NameTaken:=EA.n2
 have V_BookFull:=EA.n3
 have V_NoComb:=EA.n4
 have V_BadTooth:=EA.n5
 have V_ToothThere:=EA.n6
 have V_FirstTooth:=EA.n7
 have V_ToothMissing:=EA.n8
 have V_DeedsFull:=EA.n9
 have V_NothingDone:=EA.n10
 have V_BadShape:=EA.n11
 have V_BadPlace:=EA.n12
 have V_BadLength:=EA.n13
 have V_NoFilling:=EA.n14
 refine D.hcalleeQ zf3 (fun _ _ _ _ _ _=>ln1 fun _=>rfl) (fun e c vs H Q E h => ?_) (fun f cdv A outer s H vs Q e oe c ws hc hd hq h => ?_)
 ·obtain ⟨rfl,_⟩:=h
  rfl
 ·obtain ⟨rfl,D,j,rfl,F,q⟩:=h
  have S:=zf3
  have pin:(e,oe)∈(cxH P w K mg base ["_law_e","_law_is_one","_law_words"] "_law_kind" (defScope s_kind) f cdv A outer s H e oe).pn/\(oe.cls = .ref D/\oe.dict=none)/\∃ vs,oe.data = .fields vs:=⟨List.mem_singleton.mpr rfl,hc,ws,hd⟩
  refine ⟨_,zaB (za7 (i:=1) S.nd rfl (Or.inr rfl) (zbj (zae (qe (zai zaQ rfl T.n_isinstance boot_isinstance (zaa (pv 0) (zaa (zbk rfl V_BadName) zac)))) (zae (qe (zai zaQ rfl T.n_isinstance boot_isinstance (zaa (pv 0) (zaa (zbk rfl V_BadTeeth) zac)))) (zae (qe (zai zaQ rfl T.n_isinstance boot_isinstance (zaa (pv 0) (zaa (zbk rfl V_NameTaken) zac)))) (zaA))))))
  (zaB (za7 (i:=1) S.nd rfl (Or.inr rfl) (zdl zbS (qe (pv 1)) (zbj (zae (qe (zai zaQ rfl T.n_isinstance boot_isinstance (zaa (pv 0) (zaa (zbk rfl V_BookFull) zac)))) (zae (qe (zai zaQ rfl T.n_isinstance boot_isinstance (zaa (pv 0) (zaa (zbk rfl V_NoComb) zac)))) (zae (qe (zai zaQ rfl T.n_isinstance boot_isinstance (zaa (pv 0) (zaa (zbk rfl V_BadTooth) zac)))) (zaA)))))))
  (zaB (za7 (i:=1) S.nd rfl (Or.inr rfl) (zdl zbS (qe (pv 1)) (zbj (zae (qe (zai zaQ rfl T.n_isinstance boot_isinstance (zaa (pv 0) (zaa (zbk rfl V_ToothThere) zac)))) (zae (qe (zai zaQ rfl T.n_isinstance boot_isinstance (zaa (pv 0) (zaa (zbk rfl V_FirstTooth) zac)))) (zaA))))))
  (zaB (za7 (i:=1) S.nd rfl (Or.inr rfl) (zdl zbS (qe (pv 1)) (zbj (zae (qe (zai zaQ rfl T.n_isinstance boot_isinstance (zaa (pv 0) (zaa (zbk rfl V_ToothMissing) zac)))) (zae (qe (zai zaQ rfl T.n_isinstance boot_isinstance (zaa (pv 0) (zaa (zbk rfl V_DeedsFull) zac)))) (zaA))))))
  (zaB (za7 (i:=1) S.nd rfl (Or.inr rfl) (zdl zbS (qe (pv 1)) (zbj (zae (qe (zai zaQ rfl T.n_isinstance boot_isinstance (zaa (pv 0) (zaa (zbk rfl V_NothingDone) zac)))) (zae (qe (zai zaQ rfl T.n_isinstance boot_isinstance (zaa (pv 0) (zaa (zbk rfl V_BadShape) zac)))) (zaA))))))
  (zaB (za7 (i:=1) S.nd rfl (Or.inr rfl) (zdl zbS (qe (pv 1)) (zbj (zae (qe (zai zaQ rfl T.n_isinstance boot_isinstance (zaa (pv 0) (zaa (zbk rfl V_BadPlace) zac)))) (zae (qe (zai zaQ rfl T.n_isinstance boot_isinstance (zaa (pv 0) (zaa (zbk rfl V_BadLength) zac)))) (zae (qe (zai zaQ rfl T.n_isinstance boot_isinstance (zaa (pv 0) (zaa (zbk rfl V_NoFilling) zac)))) (zaA)))))))
  (zaB (za7 (i:=2) S.nd rfl (Or.inr rfl) (zbj (zae (qe (zas)) (zae (qe (zas)) (zae (qe (zas)) (zae (qe (zas)) (zae (qe (zas)) (zae (qe (zas)) (zae (qe (zas)) (zaA))))))))))
  (zaB (za7 (i:=2) S.nd rfl (Or.inr rfl) (zdl zbS (qe (pv 2)) (zbj (zae (qe (zas)) (zae (qe (zas)) (zae (qe (zas)) (zae (qe (zas)) (zae (qe (zas)) (zaA)))))))))
  (zaB (za7 (i:=2) S.nd rfl (Or.inr rfl) (zdl zbS (qe (pv 2)) (zbj (zae (qe (zas)) (zae (qe (zas)) (zae (qe (zas)) (zaA)))))))
  (zeY (zf9 (qe (pe_compq (own := ["_law_k"]) (caps := [(1,"_law_is_one"),(2,"_law_words")]) (QH e oe) (fun _ _ _ _ _ _=>hq.comp) ⟨rfl,rfl,rfl,rfl,⟨⟨rfl,rfl,.inl rfl⟩,⟨rfl,rfl,.inl rfl⟩,trivial⟩⟩ (pi_range1q rfl T.n_range (zaa (zab) zac)) (fun _ _ _ _ _ _=>zam (i:=0) (zaT (by decide +kernel)) rfl (Or.inl rfl)) (fun _ _ _ _ _ _=>zcH (zbQ (zaC (zcy K rfl) (pv 1) (pv 0) (fun _ _=>rfl)))) (fun _ _ _ _ _ _=>zaC (zcy K rfl) (pv 2) (pv 0) (fun _ _=>rfl)))))))))))))),?_⟩
  have M:Same H H:=Same.refl H
  refine ⟨_,rfl,_,_,D,oe,_,rfl,pin,F.cls,F.kit 0 (by decide),_,rfl,_,_,D,oe,_,rfl,pin,F.cls,F.kit 1 (by decide),_,rfl,_,_,D,oe,_,rfl,pin,F.cls,F.kit 2 (by decide),bigr rfl,fun a0 na => ?_⟩
  obtain ⟨M,e1⟩:=M.lstE (o := .lst [kb j 0,kb j 1,kb j 2]) na
  clear na
  refine ⟨_,rfl,_,rfl,_,_,D,oe,_,rfl,pin,F.cls,F.kit 3 (by decide),_,rfl,_,_,D,oe,_,rfl,pin,F.cls,F.kit 4 (by decide),_,rfl,_,_,D,oe,_,rfl,pin,F.cls,F.kit 5 (by decide),bigr rfl,fun a1 na => ?_⟩
  obtain ⟨M,e2⟩:=M.lstE (o := .lst [kb j 3,kb j 4,kb j 5]) na
  replace e1:=zbh (o := .lst [kb j 3,kb j 4,kb j 5]) e1 na
  clear na
  refine ⟨_,_,_,_,rfl,rfl,e1,e2,bigr rfl,fun c1 nc => ?_⟩
  obtain ⟨M,e1⟩:=M.lstE (o := .lst [kb j 0,kb j 1,kb j 2,kb j 3,kb j 4,kb j 5]) nc
  clear nc e2
  refine ⟨_,rfl,_,rfl,_,_,D,oe,_,rfl,pin,F.cls,F.kit 6 (by decide),_,rfl,_,_,D,oe,_,rfl,pin,F.cls,F.kit 7 (by decide),bigr rfl,fun a2 na => ?_⟩
  obtain ⟨M,e2⟩:=M.lstE (o := .lst [kb j 6,kb j 7]) na
  replace e1:=zbh (o := .lst [kb j 6,kb j 7]) e1 na
  clear na
  refine ⟨_,_,_,_,rfl,rfl,e1,e2,bigr rfl,fun c2 nc => ?_⟩
  obtain ⟨M,e1⟩:=M.lstE (o := .lst [kb j 0,kb j 1,kb j 2,kb j 3,kb j 4,kb j 5,kb j 6,kb j 7]) nc
  clear nc e2
  refine ⟨_,rfl,_,rfl,_,_,D,oe,_,rfl,pin,F.cls,F.kit 8 (by decide),_,rfl,_,_,D,oe,_,rfl,pin,F.cls,F.kit 9 (by decide),bigr rfl,fun a3 na => ?_⟩
  obtain ⟨M,e2⟩:=M.lstE (o := .lst [kb j 8,kb j 9]) na
  replace e1:=zbh (o := .lst [kb j 8,kb j 9]) e1 na
  clear na
  refine ⟨_,_,_,_,rfl,rfl,e1,e2,bigr rfl,fun c3 nc => ?_⟩
  obtain ⟨M,e1⟩:=M.lstE (o := .lst [kb j 0,kb j 1,kb j 2,kb j 3,kb j 4,kb j 5,kb j 6,kb j 7,kb j 8,kb j 9]) nc
  clear nc e2
  refine ⟨_,rfl,_,rfl,_,_,D,oe,_,rfl,pin,F.cls,F.kit 10 (by decide),_,rfl,_,_,D,oe,_,rfl,pin,F.cls,F.kit 11 (by decide),bigr rfl,fun a4 na => ?_⟩
  obtain ⟨M,e2⟩:=M.lstE (o := .lst [kb j 10,kb j 11]) na
  replace e1:=zbh (o := .lst [kb j 10,kb j 11]) e1 na
  clear na
  refine ⟨_,_,_,_,rfl,rfl,e1,e2,bigr rfl,fun c4 nc => ?_⟩
  obtain ⟨M,e1⟩:=M.lstE (o := .lst [kb j 0,kb j 1,kb j 2,kb j 3,kb j 4,kb j 5,kb j 6,kb j 7,kb j 8,kb j 9,kb j 10,kb j 11]) nc
  clear nc e2
  refine ⟨_,rfl,_,rfl,_,_,D,oe,_,rfl,pin,F.cls,F.kit 12 (by decide),_,rfl,_,_,D,oe,_,rfl,pin,F.cls,F.kit 13 (by decide),_,rfl,_,_,D,oe,_,rfl,pin,F.cls,F.kit 14 (by decide),bigr rfl,fun a5 na => ?_⟩
  obtain ⟨M,e2⟩:=M.lstE (o := .lst [kb j 12,kb j 13,kb j 14]) na
  replace e1:=zbh (o := .lst [kb j 12,kb j 13,kb j 14]) e1 na
  clear na
  refine ⟨_,_,_,_,rfl,rfl,e1,e2,bigr rfl,fun c5 nc => ?_⟩
  obtain ⟨M,e1⟩:=M.lstE (o := .lst [kb j 0,kb j 1,kb j 2,kb j 3,kb j 4,kb j 5,kb j 6,kb j 7,kb j 8,kb j 9,kb j 10,kb j 11,kb j 12,kb j 13,kb j 14]) nc
  clear nc e2
  refine ⟨bigr rfl,fun w0 nw => ?_⟩
  obtain ⟨M,f1⟩:=M.lstE (o := .lst [V.str (Str.ofString "BadName"),V.str (Str.ofString "BadTeeth"),V.str (Str.ofString "NameTaken"),V.str (Str.ofString "BookFull"),V.str (Str.ofString "NoComb"),V.str (Str.ofString "BadTooth"),V.str (Str.ofString "ToothThere")]) nw
  replace e1:=zbh (o := .lst [V.str (Str.ofString "BadName"),V.str (Str.ofString "BadTeeth"),V.str (Str.ofString "NameTaken"),V.str (Str.ofString "BookFull"),V.str (Str.ofString "NoComb"),V.str (Str.ofString "BadTooth"),V.str (Str.ofString "ToothThere")]) e1 nw
  clear nw
  refine ⟨_,rfl,bigr rfl,fun w1 nw => ?_⟩
  obtain ⟨M,f2⟩:=M.lstE (o := .lst [V.str (Str.ofString "FirstTooth"),V.str (Str.ofString "ToothMissing"),V.str (Str.ofString "DeedsFull"),V.str (Str.ofString "NothingDone"),V.str (Str.ofString "BadShape")]) nw
  replace e1:=zbh (o := .lst [V.str (Str.ofString "FirstTooth"),V.str (Str.ofString "ToothMissing"),V.str (Str.ofString "DeedsFull"),V.str (Str.ofString "NothingDone"),V.str (Str.ofString "BadShape")]) e1 nw
  replace f1:=zbh (o := .lst [V.str (Str.ofString "FirstTooth"),V.str (Str.ofString "ToothMissing"),V.str (Str.ofString "DeedsFull"),V.str (Str.ofString "NothingDone"),V.str (Str.ofString "BadShape")]) f1 nw
  clear nw
  refine ⟨_,_,_,_,rfl,rfl,f1,f2,bigr rfl,fun x1 nx => ?_⟩
  obtain ⟨M,f1⟩:=M.lstE (o := .lst [V.str (Str.ofString "BadName"),V.str (Str.ofString "BadTeeth"),V.str (Str.ofString "NameTaken"),V.str (Str.ofString "BookFull"),V.str (Str.ofString "NoComb"),V.str (Str.ofString "BadTooth"),V.str (Str.ofString "ToothThere"),V.str (Str.ofString "FirstTooth"),V.str (Str.ofString "ToothMissing"),V.str (Str.ofString "DeedsFull"),V.str (Str.ofString "NothingDone"),V.str (Str.ofString "BadShape")]) nx
  replace e1:=zbh (o := .lst [V.str (Str.ofString "BadName"),V.str (Str.ofString "BadTeeth"),V.str (Str.ofString "NameTaken"),V.str (Str.ofString "BookFull"),V.str (Str.ofString "NoComb"),V.str (Str.ofString "BadTooth"),V.str (Str.ofString "ToothThere"),V.str (Str.ofString "FirstTooth"),V.str (Str.ofString "ToothMissing"),V.str (Str.ofString "DeedsFull"),V.str (Str.ofString "NothingDone"),V.str (Str.ofString "BadShape")]) e1 nx
  clear nx f2
  refine ⟨_,rfl,bigr rfl,fun w2 nw => ?_⟩
  obtain ⟨M,f2⟩:=M.lstE (o := .lst [V.str (Str.ofString "BadPlace"),V.str (Str.ofString "BadLength"),V.str (Str.ofString "NoFilling")]) nw
  replace e1:=zbh (o := .lst [V.str (Str.ofString "BadPlace"),V.str (Str.ofString "BadLength"),V.str (Str.ofString "NoFilling")]) e1 nw
  replace f1:=zbh (o := .lst [V.str (Str.ofString "BadPlace"),V.str (Str.ofString "BadLength"),V.str (Str.ofString "NoFilling")]) f1 nw
  clear nw
  refine ⟨_,_,_,_,rfl,rfl,f1,f2,bigr rfl,fun x2 nx => ?_⟩
  obtain ⟨M,f1⟩:=M.lstE (o := .lst [V.str (Str.ofString "BadName"),V.str (Str.ofString "BadTeeth"),V.str (Str.ofString "NameTaken"),V.str (Str.ofString "BookFull"),V.str (Str.ofString "NoComb"),V.str (Str.ofString "BadTooth"),V.str (Str.ofString "ToothThere"),V.str (Str.ofString "FirstTooth"),V.str (Str.ofString "ToothMissing"),V.str (Str.ofString "DeedsFull"),V.str (Str.ofString "NothingDone"),V.str (Str.ofString "BadShape"),V.str (Str.ofString "BadPlace"),V.str (Str.ofString "BadLength"),V.str (Str.ofString "NoFilling")]) nx
  replace e1:=zbh (o := .lst [V.str (Str.ofString "BadName"),V.str (Str.ofString "BadTeeth"),V.str (Str.ofString "NameTaken"),V.str (Str.ofString "BookFull"),V.str (Str.ofString "NoComb"),V.str (Str.ofString "BadTooth"),V.str (Str.ofString "ToothThere"),V.str (Str.ofString "FirstTooth"),V.str (Str.ofString "ToothMissing"),V.str (Str.ofString "DeedsFull"),V.str (Str.ofString "NothingDone"),V.str (Str.ofString "BadShape"),V.str (Str.ofString "BadPlace"),V.str (Str.ofString "BadLength"),V.str (Str.ofString "NoFilling")]) e1 nx
  clear nx f2
  refine ⟨_,rfl,by decide,by decide,fun Dc hD => ?_⟩
  refine zcA (capv := [some (.ref c5),some (.ref x2)]) (by rfl) (zaO 0 (15:Int).toNat) (bigr rfl) hD ?_ (isJ j) wordJ ?_ ?_ ?_
  ·exact fun _ _=>trivial
  ·intro v hv H' R s' h
   obtain ⟨t,ht,rfl⟩:=List.mem_map.mp hv
   have ht15:t < 15:=List.mem_range.mp ht
   refine ⟨_,rfl,_,rfl,_,_,_,_,rfl,rfl,SqL.of (s' _ _ e1),(?_:atI (kBools j) (0 + ((t:Nat):Int))=some (kb j t)),_,rfl,?_⟩
   ·rw [Int.zero_add]
    refine zay ?_
    unfold kBools
    rw [List.getElem?_map,List.getElem?_range ht15]
    rfl
   ·have e:isJ j (.int (0 + ((t:Nat):Int)))=decide (t=j):=by
     show decide ((0 + ((t:Nat):Int)).toNat=j)=_
     rw [Int.zero_add,Int.toNat_natCast]
    have h:=h H' (Same.refl _)
    rw [e] at h
    exact h
  ·intro v hv hp H' R s' h
   obtain ⟨t,ht,rfl⟩:=List.mem_map.mp hv
   have ht15:t < 15:=List.mem_range.mp ht
   refine ⟨_,rfl,_,rfl,_,_,_,_,rfl,rfl,SqL.of (s' _ _ f1),(?_:atI (errNames.map V.str) (0 + ((t:Nat):Int))=some (wordJ (.int (0 + ((t:Nat):Int))))),h H' (Same.refl _)⟩
   rw [Int.zero_add]
   refine zay ?_
   have hl:t < errNames.length:=ht15
   show (errNames.map V.str)[t]?=some (.str (errName ((t:Nat):Int).toNat))
   rw [List.getElem?_map,List.getElem?_eq_getElem hl,Int.toNat_natCast]
   unfold errName
   rw [List.getD_eq_getElem?_getD,List.getElem?_eq_getElem hl]
   rfl
  ·intro H' s' e
   rw [kind_res F.lt] at e
   exact q _ H' (M.trans s') (M.free hD) e
theorem at0 {x y:V}:atI [x,y] 0=some x:=show atI [x,y] ((0:Nat):Int)=_ from zay rfl
theorem at1 {x y:V}:atI [x,y] 1=some y:=show atI [x,y] ((1:Nat):Int)=_ from zay rfl
noncomputable def sp_refused (K:W.Frag):Sp:=fun vs H Q _=>∃ (a l:Addr) (x:Str),vs = [.ref a,.str x]/\PyData.strOk x=true/\H a=some (.tup [.str (Str.ofString "refused"),.ref l])/\H l=some (.lst [.str x])/\∀ H',Same H H'->Q (.bl true) H'
theorem zdx {x:Str} (h:PyData.strOk x=true):SeqAt.shaped (.list [.str x])=true:=by simp [h,SeqAt.shaped,PyData.canLay0,PyData.canLayAll0,PyData.depth,PyData.depthAll]
theorem eqv_one (x:Str):PyData.eqv (.list [.str x]) (.list [.str x])=true:=by simp [PyData.eqv,PyData.eqvAll]
theorem zdy:FnScope ["_law_found","_law_due"] ["_law_found","_law_due"] (defScope s_refused):=⟨rfl,rfl,rfl,by decide +kernel,rfl,by decide +kernel,by decide +kernel⟩
theorem ok_refused (D:DefAt K mg "_law_refused" s_refused) (T:Bn mg):Callee P w K mg base "_law_refused" 2 ["_law_found","_law_due"] (sp_refused K):=by
 refine D.callee zdy (fun _ _ _ _ _ _=>ln2 fun _ _=>rfl) (fun vs H Q E h => ?_) (fun f cdv A outer s H vs Q E hr h => ?_)
 ·obtain ⟨a,l,x,rfl,_⟩:=h
  rfl
 ·obtain ⟨a,l,x,rfl,hok,ha,hl,q⟩:=h
  have S:=zdy
  have a0:atI [V.str (Str.ofString "refused"),V.ref l] 0=some (V.str (Str.ofString "refused")):=at0
  have a1:atI [V.str (Str.ofString "refused"),V.ref l] 1=some (V.ref l):=at1
  refine ⟨_,zad (zaM (PW.pt (zfS (zbn (zbQ (zai (zbx "tuple") rfl T.n_isinstance boot_isinstance (zaa (pv 0) (zaa (zbX (v := .ty "tuple") rfl T.n_tuple boot_tuple rfl) zac))))) (zfS (zar zev (zai zau rfl T.n_len PySem.boot_len (zaa (pv 0) zac)) (zab) (zaw _)) (zfw (zar zev (zaC za5 (pv 0) (zab) (fun _ _=>rfl)) (zas) (zaw _))))))
   (zag (zaj (zb5)))
   (zao))
  (zag (zaj (zcc (zfB hr.units) (zaC za5 (pv 0) (zab) (fun _ _=>rfl)) (zaU (zaa (pv 1) zac)) (zaw _)))),?_⟩
  refine ⟨_,rfl,_,_,true,rfl,.tup ha,rfl,_,rfl,?_⟩
  refine iteF ?_
  refine ⟨_,rfl,_,_,rfl,.inr (SqT.of ha),rfl,_,rfl,?_⟩
  refine iteF ?_
  refine ⟨_,rfl,_,_,_,_,rfl,rfl,SqT.of ha,a0,rfl,_,rfl,?_⟩
  refine iteF ?_
  refine ⟨_,rfl,_,_,_,_,rfl,rfl,SqT.of ha,a1,_,rfl,bigr rfl,fun p np => ?_⟩
  have s1:Same H (upd H p (.lst [.str x])):=Same.new np
  refine ⟨_,_,.lst (SqL.of (s1 _ _ hl)) (.cons (.str x) .nil),.lst (SqL.of zaf) (.cons (.str x) .nil),zdx hok,zdx hok,?_⟩
  rw [if_neg Bool.false_ne_true,eqv_one]
  exact q _ s1
noncomputable def sp_told (K:W.Frag):Sp:=fun vs H Q _=>∃ (a:Addr) (d:Int),vs = [.ref a,.int d]/\H a=some (.tup [.str (Str.ofString "told"),.int d])/\Q (.bl true) H
theorem zf1:FnScope ["_law_found","_law_due"] ["_law_found","_law_due"] (defScope s_told):=⟨rfl,rfl,rfl,by decide +kernel,rfl,by decide +kernel,by decide +kernel⟩
theorem ok_told (D:DefAt K mg "_law_told" s_told) (T:Bn mg) (C_whole:Callee P w K mg base "_law_whole" 1 ["_law_found"] sp_whole):Callee P w K mg base "_law_told" 2 ["_law_found","_law_due"] (sp_told K):=by
 refine D.callee zf1 (fun _ _ _ _ _ _=>ln2 fun _ _=>rfl) (fun vs H Q E h => ?_) (fun f cdv A outer s H vs Q E hr h => ?_)
 ·obtain ⟨a,d,rfl,_⟩:=h
  rfl
 ·obtain ⟨a,d,rfl,ha,q⟩:=h
  have S:=zf1
  have a0:atI [V.str (Str.ofString "told"),V.int d] 0=some (V.str (Str.ofString "told")):=at0
  have a1:atI [V.str (Str.ofString "told"),V.int d] 1=some (V.int d):=at1
  refine ⟨_,zad (zaM (PW.pt (zfS (zbn (zbQ (zai (zbx "tuple") rfl T.n_isinstance boot_isinstance (zaa (pv 0) (zaa (zbX (v := .ty "tuple") rfl T.n_tuple boot_tuple rfl) zac))))) (zfS (zar zev (zai zau rfl T.n_len PySem.boot_len (zaa (pv 0) zac)) (zab) (zaw _)) (zfw (zar zev (zaC za5 (pv 0) (zab) (fun _ _=>rfl)) (zas) (zaw _))))))
   (zag (zaj (zb5)))
   (zao))
  (zag (zaj (zdF (zaK C_whole (hr.mono (by decide)) rfl (zaa (zaC za5 (pv 0) (zab) (fun _ _=>rfl)) zac)) (zet (zcc zb6 (zaC za5 (pv 0) (zab) (fun _ _=>rfl)) (pv 1) (zaw _)))))),?_⟩
  refine ⟨_,rfl,_,_,true,rfl,.tup ha,rfl,_,rfl,?_⟩
  refine iteF ?_
  refine ⟨_,rfl,_,_,rfl,.inr (SqT.of ha),rfl,_,rfl,?_⟩
  refine iteF ?_
  refine ⟨_,rfl,_,_,_,_,rfl,rfl,SqT.of ha,a0,rfl,_,rfl,?_⟩
  have e0:(!decide (V.str (Str.ofString "told")=V.str (Str.ofString "told")))=false:=by simp
  refine iteF ?_
  refine ⟨_,rfl,_,_,_,_,rfl,rfl,SqT.of ha,a1,d,rfl,_,rfl,?_⟩
  refine iteT ?_
  refine ⟨_,rfl,_,_,_,_,rfl,rfl,SqT.of ha,a1,_,rfl,rfl,?_⟩
  have e1:decide (V.int d=V.int d)=true:=decide_eq_true rfl
  rw [e1]
  exact q
theorem zg8 {ks:List (Str×List Int)} (nd:(ks.map (·.1)).Nodup) {i:Nat} {k:Str×List Int} (h:ks[i]?=some k):cGet (ks.take i) k.1=none:=by
 rw [get_none]
 intro hm
 obtain ⟨c,hc,e⟩:=List.mem_map.mp hm
 obtain ⟨j,hj,ej⟩:=List.getElem_of_mem hc
 have hi:=(List.getElem?_eq_some_iff.mp h).1
 have hj':j < i:=by
  have:=hj
  rw [List.length_take] at this
  omega
 have e1:(ks.map (·.1))[j]?=some k.1:=by
  rw [List.getElem?_map,List.getElem?_eq_getElem (by omega)]
  rw [List.getElem_take] at ej
  rw [ej]
  exact congrArg some e
 have e2:(ks.map (·.1))[i]?=some k.1:=by rw [List.getElem?_map,h]; rfl
 have:=(List.getElem?_inj (by rw [List.length_map]; omega) nd).mp (e1.trans e2.symm)
 omega
noncomputable def sp_mkbook (C:Addr):Sp:=fun vs H Q _=>∃ (a:Addr) (ws:List V) (ks:List (Str×List Int)),vs = [.ref a]/\H a=some (.lst ws)/\Drawn (fun _=>True) H ws ks/\ks.length<=8 /\
 ∀ b l G past H',Same H H'->H b=none->H l=none->(∀ x,G x->H x=none)->Bk C G H' b l ks past->past.length=ks.length->Q (.ref b) H'
theorem zf4:FnScope ["_law_kinds","_law_book_here","_law_word_here","_law_teeth_here"] ["_law_kinds"] (defScope s_book):=⟨rfl,rfl,rfl,by decide +kernel,rfl,by decide +kernel,by decide +kernel⟩
theorem ok_mkbook {ea:Nat->Addr} {C:Addr} (D:DefAt K mg "_law_book" s_book) (T:Bn mg) (BA:BookAt K C) (C_Book:Maker P w K mg base "Book" C CX0 1 ["self"] (sp_init C)) (M_put:Method P w K mg base C "put" (CX1 P w) 3 ["self","name","teeth"] (sp_put (K:=K) ea C)):Callee P w K mg base "_law_book" 4 ["_law_kinds"] (sp_mkbook C):=by
 refine D.callee zf4 (fun _ _ _ _ _ _=>ln1 fun _=>rfl) (fun vs H Q E h => ?_) (fun f cdv A outer s H vs Q E hr h => ?_)
 ·obtain ⟨a,ws,ks,rfl,_⟩:=h
  rfl
 ·obtain ⟨a,ws,ks,rfl,ha,dr,hk8,q⟩:=h
  have S:=zf4
  have hu:=zdc hr
  have B_cls:=BA.cls
  have hlen:=dr.rows.length
  refine ⟨_,zad (zan (i:=1) S.nd rfl (Or.inl rfl) (pe_mk0 C_Book (hr.mono (by decide)) (by first | exact zdn | exact zat | exact zbg | exact zaz) rfl))
  (zad (zaY PassesOwn.never rfl (zav (pv 0)) (zfy rfl (zbd (zam (i:=2) S.nd rfl (Or.inl rfl)) (zbd (zam (i:=3) S.nd rfl (Or.inl rfl)) (zc2))))
   (zag (zaS (ze0 (pv 1) B_cls M_put (hr.mono (by decide)) (by first | exact zdn | exact zat | exact zbg | exact zaz) (zaa (pv 2) (zaa (zcw zcR rfl T.n_list boot_list (zaa (pv 3) zac)) zac))))))
  (zag (zaj (pv 1)))),?_⟩
  refine fun b dx nb ndx ndb=>⟨b,dx,rfl,zaf,fun H1 l d m nl nd B=>⟨rfl,?_⟩⟩
  have hlb:l≠b:=fun z=>by rw [z,zaf] at nl; cases nl
  have nl0:H l=none:=by
   rw [zah hlb] at nl
   by_cases z:l=dx
   ·rw [z]; exact ndx
   ·rw [zah z] at nl; exact nl
  have hdb:d≠b:=fun z=>by rw [z,zaf] at nd; cases nd
  have nd0:H d=none:=by
   rw [zah hdb] at nd
   by_cases z:d=dx
   ·rw [z]; exact ndx
   ·rw [zah z] at nd; exact nd
  have s1:Same H H1:=fun x o e=>m.keep x o (by rw [zah (zaq e nb),zah (zaq e ndx)]; exact e) (zaq e nb) (zaq e nb)
  refine ⟨_,rfl,_,rfl,⟨_,SqL.of (s1 _ _ ha)⟩,?_⟩
  refine zbz (zak K a ws) (fun i σ H2=>Same H H2/\∃ G past x2 x3,σ = [some (.ref a),some (.ref b),x2,x3]/\Bk C G H2 b l (ks.take i) past/\past.length=i/\∀ x,G x->H x=none) ⟨s1,_,[],_,_,rfl,B,rfl,fun x g=>by rw [show x=d from g]; exact nd0⟩ (fun i σ H2 _ h=>SqL.of (h.1 _ _ ha)) ?_ ?_
  ·rintro i x σ H2 hx ⟨s2,G,past,x2,x3,rfl,B2,hp,hG⟩
   obtain ⟨k,qa,t,hk,rfl,hq,ht⟩:=(dr.same s2).rows.get hx
   have hi:i < ks.length:=(List.getElem?_eq_some_iff.mp hk).1
   obtain ⟨hkn,hkg⟩:=dr.good k (List.mem_of_getElem? hk)
   obtain ⟨dx2,d2,hb2,_⟩:=id B2.ins
   refine ⟨qa,_,rfl,SqL.of hq,rfl,_,_,rfl,_,_,rfl,rfl,?_⟩
   refine ⟨_,rfl,b,dx2,_,rfl,hb2,rfl,_,rfl,_,rfl,t,_,rfl,.inl (SqL.of ht),fun p np => ?_⟩
   have s3:Same H2 (upd H2 p (.lst (k.2.map V.int))):=Same.new np
   refine ⟨b,l,G,_,past,k.1,p,k.2,rfl,B2.same s3,SqL.of zaf,?_,?_,?_⟩
   ·exact big (by have:=name_len hkn; omega)
   ·have:=zg9 hkg; omega
   have hlt:(ks.take i).length=i:=by rw [List.length_take]; omega
   have e:putD (ks.take i) past k.1 k.2 = .ok (ks.take (i + 1)):=by
    unfold putD full
    rw [if_neg (by rw [hkn]; decide),if_neg (by rw [gt_teeth hkg]; decide),zg8 dr.nd hk,if_neg (by simp),if_neg (by omega),if_neg (by omega),zga (zg8 dr.nd hk),gt_eq hkg,zaE hk]
   rw [e]
   intro H4 G4 m4 B4
   refine ⟨fun x o e'=>m4.keep x o (s3 _ _ (s2 _ _ e')) (zaq e' nb) (zaq e' nl0),G4,_,_,_,rfl,B4,by rw [List.length_append,List.length_singleton,hp],fun x g => ?_⟩
   rcases m4.new x g with g | g
   ·exact hG x g
   ·exact (s2.trans s3).free g
  ·rintro σ H2 ⟨s2,G,past,x2,x3,rfl,B2,hp,hG⟩
   rw [List.take_of_length_le (by omega)] at B2
   exact ⟨_,rfl,q b l G past H2 s2 nb nl0 hG B2 (by omega)⟩
noncomputable def tellT (Q:VK):VK:=fun v H1=>(2:Nat)<=sizeLine/\∀ p,H1 p=none->Q (.ref p) (upd H1 p (.tup [.str (Str.ofString "told"),v]))
noncomputable def refuT (K:W.Frag) (ea:Nat->Addr) (ce:Value) (Q:VK):XK:=fun c _ H1=>∃ D j,c = .ref D/\KindF K ea D j/\PySem.W.exmOne K (.ref D) ce=some true/\∀ p l H2,Same H1 H2->H1 l=none->H2 l=some (.lst [.str (errName j)])->H2 p=none->Q (.ref p) (upd H2 p (.tup [.str (Str.ofString "refused"),.ref l]))
noncomputable def spTry1 (K:W.Frag) (ea:Nat->Addr) (ce:Value) (C:Addr) (m:Str) (sp:Sp):Sp:=fun vs H Q _=>∃ b x dx fs,vs = [.ref b,x]/\H b=some (.ins C dx fs)/\fs.lookup m=none/\sp [.ref b,x] H (tellT Q) (refuT K ea ce Q)
noncomputable def spTry2 (K:W.Frag) (ea:Nat->Addr) (ce:Value) (C:Addr) (m:Str) (sp:Sp):Sp:=fun vs H Q _=>∃ b x y dx fs,vs = [.ref b,x,y]/\H b=some (.ins C dx fs)/\fs.lookup m=none/\sp [.ref b,x,y] H (tellT Q) (refuT K ea ce Q)
noncomputable def spTry0 (K:W.Frag) (ea:Nat->Addr) (ce:Value) (C:Addr) (m:Str) (sp:Sp):Sp:=fun vs H Q _=>∃ b dx fs,vs = [.ref b]/\H b=some (.ins C dx fs)/\fs.lookup m=none/\sp [.ref b] H (tellT Q) (refuT K ea ce Q)
theorem ej_re {K:W.Frag} {ea:Nat->Addr} {ce:Value} {j:Nat} (e:EJ K ea ce j) {Q:VK} {H:Hp} (q:∀ p l H2,Same H H2->H l=none->H2 l=some (.lst [.str (errName j)])->H2 p=none->Q (.ref p) (upd H2 p (.tup [.str (Str.ofString "refused"),.ref l]))):refuT K ea ce Q (.ref (ea j)) none H:=⟨ea j,j,rfl,e.kf,e.ex,q⟩
noncomputable def Ans (H:Hp) (fd:Addr):Except Nat Int->Prop
 | .ok n=>H fd=some (.tup [.str (Str.ofString "told"),.int n])
 | .error j=>∃ le,H fd=some (.tup [.str (Str.ofString "refused"),.ref le])/\H le=some (.lst [.str (errName j)])
theorem Ans.same {H H':Hp} {fd:Addr} {r:Except Nat Int} (a:Ans H fd r) (s:Same H H'):Ans H' fd r:=by
 cases r with
 | ok n=>exact s _ _ a
 | error j=>obtain ⟨le,h1,h2⟩:=a; exact ⟨le,s _ _ h1,s _ _ h2⟩
theorem zgE {K:W.Frag} {ea:Nat->Addr} {ce:Value} {j:Nat} (e:EJ K ea ce j) {Q:VK} {H:Hp} (q:∀ fd H2,Same H H2->Ans H2 fd (.error j)->Q (.ref fd) H2):refuT K ea ce Q (.ref (ea j)) none H :=
 ej_re e fun p le H2 s nle hle np=>q p _ (s.put (s.free np)) ⟨le,zaf,by rw [zah (zaq hle np)]; exact hle⟩
noncomputable def csOf (r:Except Nat Combs) (cs:Combs):Combs:=match r with
 | .ok c=>c
 | .error _=>cs
noncomputable def pastOf (r:Except Nat Combs) (cs:Combs) (past:List Combs):List Combs:=match r with
 | .ok _=>past ++ [cs]
 | .error _=>past
noncomputable def ansOf (r:Except Nat Combs) (past:List Combs):Except Nat Int:=match r with
 | .ok _ => .ok ((past.length:Int) + 1)
 | .error j => .error j
theorem deed_try {K:W.Frag} {ea:Nat->Addr} {ce:Value} {C b l:Addr} {G:Addr->Prop} {H:Hp} {cs:Combs} {past:List Combs} {Q:VK} {r:Except Nat Combs} (B:Bk C G H b l cs past) (ej:∀ j,r = .error j->EJ K ea ce j)
  (q:∀ Hx fd Gx,Mv b l G Gx H Hx->Bk C Gx Hx b l (csOf r cs) (pastOf r cs past)->Ans Hx fd (ansOf r past)->Q (.ref fd) Hx):Deed ea C G H b l cs past (tellT Q) (refuT K ea ce Q) r:=by
 cases r with
 | error j =>
  intro H' s
  exact zgE (ej j rfl) fun fd H2 s2 a=>q H2 fd G (Mv.ofSame (s.trans s2)) (B.same (s.trans s2)) a
 | ok cs' =>
  intro H' G' m B'
  refine ⟨bigr rfl,fun p np => ?_⟩
  have s2:Same H' (upd H' p (.tup [.str (Str.ofString "told"),.int ((past.length:Int) + 1)])):=Same.new np
  exact q _ p G' (m.trans (Mv.ofSame s2)) (B'.same s2) zaf
noncomputable def spLaw (K:W.Frag):Sp:=fun vs H Q _=>∃ (a:Addr) (ns:List Int),vs = [.ref a]/\SqL K H a (ns.map V.int)/\ns.length<=63/\∀ H',Q (.bl true) H'
noncomputable def sp_laying:Sp:=fun vs H Q _=>∃ (q:Addr) (a:Int) (x:Str),vs = [.ref q]/\H q=some (.tup [.int a,.str x])/\Q (.bl true) H
theorem zeq:FnScope ["_law_one"] ["_law_one"] (defScope s_laying):=⟨rfl,rfl,rfl,by decide +kernel,rfl,by decide +kernel,by decide +kernel⟩
theorem ok_laying (D:DefAt K mg "_law_laying" s_laying) (T:Bn mg) (C_whole:Callee P w K mg base "_law_whole" 1 ["_law_found"] sp_whole):Callee P w K mg base "_law_laying" 2 ["_law_one"] sp_laying:=by
 refine D.callee zeq (fun _ _ _ _ _ _=>ln1 fun _=>rfl) (fun vs H Q E h => ?_) (fun f cdv A outer s H vs Q E hr h => ?_)
 ·obtain ⟨qa,a,x,rfl,_⟩:=h
  rfl
 ·obtain ⟨qa,a,x,rfl,hq,q⟩:=h
  have S:=zeq
  refine ⟨_,zad (zaM (PW.pt (zfS (zbn (zbQ (zai (zbx "tuple") rfl T.n_isinstance boot_isinstance (zaa (pv 0) (zaa (zbX (v := .ty "tuple") rfl T.n_tuple boot_tuple rfl) zac))))) (zfw (zar zev (zai zau rfl T.n_len PySem.boot_len (zaa (pv 0) zac)) (zab) (zaw _)))))
   (zag (zaj (zb5)))
   (zao))
  (zag (zaj (zdF (zaK C_whole (hr.mono (by decide)) rfl (zaa (zaC za5 (pv 0) (zab) (fun _ _=>rfl)) zac)) (zet (zai (zbx "str") rfl T.n_isinstance boot_isinstance (zaa (zaC za5 (pv 0) (zab) (fun _ _=>rfl)) (zaa (zbX (v := .ty "str") rfl T.n_str boot_str rfl) zac))))))),?_⟩
  refine ⟨_,rfl,_,_,true,rfl,.tup hq,rfl,_,rfl,?_⟩
  refine iteF ?_
  refine ⟨_,rfl,_,_,rfl,.inr (SqT.of hq),rfl,_,rfl,?_⟩
  refine iteF ?_
  refine ⟨_,rfl,_,_,_,_,rfl,rfl,SqT.of hq,at0,a,rfl,_,rfl,?_⟩
  refine iteT ?_
  exact ⟨_,rfl,_,_,_,_,rfl,rfl,SqT.of hq,at1,_,_,true,rfl,.str x,rfl,q⟩
noncomputable def sp_layings:Sp:=fun vs H Q _=>∃ (p:Addr) (ws:List V),vs = [.ref p]/\H p=some (.lst ws)/\(∀ (i:Nat) x,ws[i]?=some x->∃ q a s,x = .ref q/\H q=some (.tup [.int a,.str s]))/\Q (.bl true) H
theorem zdz:FnScope ["_law_found","_law_one"] ["_law_found"] (defScope s_layings):=⟨rfl,rfl,rfl,by decide +kernel,rfl,by decide +kernel,by decide +kernel⟩
theorem ok_layings (D:DefAt K mg "_law_layings" s_layings) (T:Bn mg) (C_laying:Callee P w K mg base "_law_laying" 2 ["_law_one"] sp_laying):Callee P w K mg base "_law_layings" 3 ["_law_found"] sp_layings:=by
 refine D.callee zdz (fun _ _ _ _ _ _=>ln1 fun _=>rfl) (fun vs H Q E h => ?_) (fun f cdv A outer s H vs Q E hr h => ?_)
 ·obtain ⟨p,ws,rfl,_⟩:=h
  rfl
 ·obtain ⟨p,ws,rfl,hp,hw,q⟩:=h
  have S:=zdz
  refine ⟨_,zad (zaM (zbn (zbQ (zai (zbx "list") rfl T.n_isinstance boot_isinstance (zaa (pv 0) (zaa (zbX (v := .ty "list") rfl T.n_list boot_list rfl) zac)))))
   (zag (zaj (zb5)))
   (zao))
  (zad (zaY PassesOwn.never rfl (zav (pv 0)) (zam (i:=1) S.nd rfl (Or.inl rfl))
   (zag (zaM (zbn (zbQ (zaK C_laying (hr.mono (by decide)) rfl (zaa (pv 1) zac))))
    (zag (zaj (zb5)))
    (zao))))
  (zag (zaj (zb5)))),?_⟩
  refine ⟨_,rfl,_,_,true,rfl,.lst hp,rfl,_,rfl,?_⟩
  refine iteF ?_
  refine ⟨_,rfl,_,rfl,⟨_,SqL.of hp⟩,?_⟩
  refine zbz (zak K p ws) (fun i σ Hx=>Hx=H/\∃ x1,σ = [some (.ref p),x1]) ⟨rfl,_,rfl⟩ (fun i σ Hx _ h=>by rw [h.1]; exact SqL.of hp) ?_ ?_
  ·rintro i x σ Hx hx ⟨rfl,x1,rfl⟩
   obtain ⟨qa,a,x',rfl,e⟩:=hw i x hx
   refine ⟨_,rfl,qa,a,x',rfl,e,_,rfl,?_⟩
   refine iteF ?_
   exact ⟨rfl,_,rfl⟩
  ·rintro σ Hx ⟨rfl,x1,rfl⟩
   exact q
theorem at4 {x y z u:V}:atI [x,y,z,u] 0=some x/\atI [x,y,z,u] 1=some y/\atI [x,y,z,u] 2=some z/\atI [x,y,z,u] 3=some u:=⟨show atI _ ((0:Nat):Int)=_ from zay rfl,show atI _ ((1:Nat):Int)=_ from zay rfl,show atI _ ((2:Nat):Int)=_ from zay rfl,show atI _ ((3:Nat):Int)=_ from zay rfl⟩
theorem lays_each {H:Hp} {ws:List V} {nm:Nat->Str} {n:Nat} (r:LaysR H ws nm n):∀ (i:Nat) x,ws[i]?=some x->∃ q a s,x = .ref q/\H q=some (.tup [.int a,.str s]):=fun i x h=>by
 obtain ⟨j,_,q,e1,e2⟩:=Paired.rev r h
 exact ⟨q,_,_,e1,e2⟩
noncomputable def askS (ea:Nat->Addr) (C:Addr) (w:Int) (b x n:V):Hp->VK->XK->Prop:=if w=0 then sp_count ea C [b,n] else if w=1 then sp_ffill ea C [b,n] else if w=2 then sp_countw ea C [b,x,n] else sp_ffillw ea C [b,x,n]
noncomputable def sp_ask (K:W.Frag) (ea:Nat->Addr) (ce:Value) (C:Addr):Sp:=fun vs H Q _=>∃ w b x n,vs = [.int w,b,x,n]/\askS ea C w b x n H (tellT Q) (refuT K ea ce Q)
theorem zgH {i j:Int} (h:¬ i=j):decide (V.int i=V.int j)=false:=by rw [zhe]; exact decide_eq_false h
theorem ze6 {i:Int}:decide (V.int i=V.int i)=true:=decide_eq_true rfl
theorem zgY:FnScope ["_law_what","_law_book_here","_law_word_here","_law_length","_law_e"] ["_law_what","_law_book_here","_law_word_here","_law_length"] (defScope s_ask):=⟨rfl,rfl,rfl,by decide +kernel,rfl,by decide +kernel,by decide +kernel⟩
theorem ok_ask (D:DefAt K mg "_law_ask" s_ask) (T:Bn mg) {ea:Nat->Addr} {ce:Value} {C:Addr} (V_CombError:mg "CombError" = some ce) (C_kind:HCallee P w K mg base "_law_kind" 1 ["_law_e"] (spKind K ea))
  (C_count_fillings:Callee1 P w K mg base "count_fillings" 5 ["book","length"] (sp_count ea C)) (C_first_filling:Callee1 P w K mg base "first_filling" 5 ["book","length"] (sp_ffill ea C)) (C_count_fillings_with:Callee1 P w K mg base "count_fillings_with" 5 ["book","name","length"] (sp_countw ea C)) (C_first_filling_with:Callee1 P w K mg base "first_filling_with" 5 ["book","name","length"] (sp_ffillw ea C)):Callee P w K mg base "_law_ask" 6 ["_law_what","_law_book_here","_law_word_here","_law_length"] (sp_ask K ea ce C):=by
 refine D.callee zgY (fun _ _ _ _ _ _=>ln4 fun _ _ _ _=>rfl) (fun vs H Q E h => ?_) (fun f cdv A outer s H vs Q E hr h => ?_)
 ·obtain ⟨w,b,x,n,rfl,_⟩:=h
  rfl
 ·obtain ⟨w,b,x,n,rfl,h⟩:=h
  have S:=zgY
  refine ⟨_,zag (ps_try (i:=4) rfl rfl S.nd rfl rfl rfl V_CombError (fun E pn=>zad (zaM (zar zb6 (pv 0) (zab) (zaw _))
    (zag (zaj (zbR (zaa (zas) (zaa (zbf C_count_fillings (hr.mono (by decide)) (by first | exact zat | exact zbg | exact zaz) rfl (zaa (pv 1) (zaa (pv 3) zac))) zac)))))
    (zao))
   (zad (zaM (zar zb6 (pv 0) (zab) (zaw _))
    (zag (zaj (zbR (zaa (zas) (zaa (zbf C_first_filling (hr.mono (by decide)) (by first | exact zat | exact zbg | exact zaz) rfl (zaa (pv 1) (zaa (pv 3) zac))) zac)))))
    (zao))
   (zad (zaM (zar zb6 (pv 0) (zab) (zaw _))
    (zag (zaj (zbR (zaa (zas) (zaa (zbf C_count_fillings_with (hr.mono (by decide)) (by first | exact zat | exact zbg | exact zaz) rfl (zaa (pv 1) (zaa (pv 2) (zaa (pv 3) zac)))) zac)))))
    (zao))
   (zag (zaj (zbR (zaa (zas) (zaa (zbf C_first_filling_with (hr.mono (by decide)) (by first | exact zat | exact zbg | exact zaz) rfl (zaa (pv 1) (zaa (pv 2) (zaa (pv 3) zac)))) zac))))))))
   (fun x c ox pn vs hc hd h2 hx=>zag (zaj (zbR (zaa (zas) (zaa (pe_hand C_kind hr hx hc hd h2 (by decide) rfl (zaa (pv 4) zac)) zac)))))),?_⟩
  refine ⟨refuT K ea ce Q,?_,fun c H' x' hE hx' => ?_⟩
  ·unfold askS at h
   refine ⟨_,rfl,rfl,_,rfl,?_⟩
   by_cases h0:w=0
   ·subst h0
    rw [if_pos rfl] at h
    rw [ze6]
    exact iteT ⟨_,rfl,_,rfl,h⟩
   rw [if_neg h0] at h
   rw [zgH h0]
   refine iteF ⟨_,rfl,rfl,_,rfl,?_⟩
   by_cases h1:w=1
   ·subst h1
    rw [if_pos rfl] at h
    rw [ze6]
    exact iteT ⟨_,rfl,_,rfl,h⟩
   rw [if_neg h1] at h
   rw [zgH h1]
   refine iteF ⟨_,rfl,rfl,_,rfl,?_⟩
   by_cases h2:w=2
   ·subst h2
    rw [if_pos rfl] at h
    rw [ze6]
    exact iteT ⟨_,rfl,_,rfl,_,rfl,h⟩
   rw [if_neg h2] at h
   rw [zgH h2]
   exact iteF ⟨_,rfl,_,rfl,_,rfl,h⟩
  obtain ⟨Dd,j,rfl,kf,he,q⟩:=hE
  refine ⟨he,_,rfl,rfl,Dd,j,rfl,kf,fun p H2 s2 n2 e2=>⟨bigr rfl,fun p' np' => ?_⟩⟩
  exact q p' p H2 s2 n2 e2 np'
noncomputable def manyW (cs:Combs) (w:Int) (x:Str) (n:Nat):Nat:=if w=2 then Ww (srt cs) x n 0 else Wy (srt cs) n 0
noncomputable def nmW (cs:Combs) (w:Int) (x:Str) (n:Nat):Nat->Str:=if w=2 then fnm (srt cs) x (Ww (srt cs) x) n else fnm (srt cs) (Str.ofString "") (Wy (srt cs)) n
section
variable {ea:Nat->Addr} {ce:Value} {C:Addr} {G:Addr->Prop} {H:Hp} {b l:Addr} {cs:Combs} {past:List Combs} {x:Str} {n:Nat} {Q:VK} {w:Int}
theorem ask_many {K:W.Frag} (hw:w=0\/w=2) (hx:w=2->(cGet cs x).isSome=true) (hn:n<=200) (B:Bk C G H b l cs past) (q:∀ fd H',Same H H'->H' fd=some (.tup [.str (Str.ofString "told"),.int ((manyW cs w x n:Nat):Int)])->Q (.ref fd) H'):askS ea C w (.ref b) (.str x) (.int ((n:Nat):Int)) H (tellT Q) (refuT K ea ce Q):=by
 have h0:0<=((n:Nat):Int)/\((n:Nat):Int)<=200:=⟨by omega,by omega⟩
 have ek:((n:Nat):Int).toNat=n:=by omega
 rcases hw with rfl | rfl
 ·refine ⟨b,l,G,cs,past,_,rfl,B,?_⟩
  rw [if_pos h0,ek]
  exact fun H' s'=>⟨bigr rfl,fun fd nfd=>q fd _ (s'.trans (Same.new nfd)) zaf⟩
 ·refine ⟨b,l,G,cs,past,x,_,rfl,B,?_⟩
  rw [if_pos (hx rfl),if_pos h0,ek]
  exact fun H' s'=>⟨bigr rfl,fun fd nfd=>q fd _ (s'.trans (Same.new nfd)) zaf⟩
theorem ask_first {K:W.Frag} (E14:EJ K ea ce 14) (hw:w=0\/w=2) (hx:w=2->(cGet cs x).isSome=true) (hn:n<=200) (B:Bk C G H b l cs past)
  (q1:0 < manyW cs w x n->∀ fd r wl H',Same H H'->H' fd=some (.tup [.str (Str.ofString "told"),.ref r])->H' r=some (.lst wl)->LaysR H' wl (nmW cs w x n) n->Q (.ref fd) H')
  (q2:¬ 0 < manyW cs w x n->∀ fd H',Same H H'->Ans H' fd (.error 14)->Q (.ref fd) H'):askS ea C (w + 1) (.ref b) (.str x) (.int ((n:Nat):Int)) H (tellT Q) (refuT K ea ce Q):=by
 have h0:0<=((n:Nat):Int)/\((n:Nat):Int)<=200:=⟨by omega,by omega⟩
 have ek:((n:Nat):Int).toNat=n:=by omega
 rcases hw with rfl | rfl
 ·refine ⟨b,l,G,cs,past,_,rfl,B,?_⟩
  rw [if_pos h0,ek]
  refine ite2 (fun h => ?_) (fun h H' s' => ?_)
  ·intro r wl H' s' nr hr lr
   exact ⟨bigr rfl,fun fd nfd=>q1 h fd r wl _ (s'.trans (Same.new nfd)) zaf (Same.new nfd _ _ hr) (lr.mono fun _ _ z=>Same.new nfd _ _ z)⟩
  ·exact zgE E14 fun fd H3 s3 an=>q2 h fd H3 (s'.trans s3) an
 ·refine ⟨b,l,G,cs,past,x,_,rfl,B,?_⟩
  rw [if_pos (hx rfl),if_pos h0,ek]
  refine ite2 (fun h => ?_) (fun h H' s' => ?_)
  ·intro r wl H' s' nr hr lr
   exact ⟨bigr rfl,fun fd nfd=>q1 h fd r wl _ (s'.trans (Same.new nfd)) zaf (Same.new nfd _ _ hr) (lr.mono fun _ _ z=>Same.new nfd _ _ z)⟩
  ·exact zgE E14 fun fd H3 s3 an=>q2 h fd H3 (s'.trans s3) an
end
theorem lays_each2 {H:Hp} {ws:List V} {nm:Nat->Str} {n:Nat} (r:LaysR H ws nm n):∀ (i:Nat) x,ws[i]?=some x->∃ q a s,x = .ref q/\H q=some (.tup [.int a,.str s]):=fun i x h=>by
 obtain ⟨j,_,q,e1,e2⟩:=Paired.rev r h
 exact ⟨q,_,_,e1,e2⟩
theorem errs_ok:∀ j,j < 15->PyData.strOk (errName j)=true/\errName j≠Str.ofString "" := by decide +kernel
theorem zd5 {H:Hp} {D:Addr} {wl:List V} {l:List (Nat×Str)} (hl:wl.length=l.length) (e:H D=some (.lst (((List.range wl.length).filter fun _=>true).map fun j=>V.str (l.getD j (0,Str.ofString "")).2))):H D=some (.lst ((l.map (·.2)).map V.str)):=by
 rw [e,List.filter_eq_self.mpr fun _ _=>rfl,hl,range_getD l (0,Str.ofString "") fun y=>V.str y.2,List.map_map]
 rfl
noncomputable def sp_right37 (C:Addr):Sp:=fun vs H Q _=>∃ (b l ev:Addr) (G:Addr->Prop) (cs:Combs) (past:List Combs) (w:Int) (x:Str) (n:Nat) (ws:List V) (ls:List (List (Nat×Str))),vs = [.ref b,.int w,.str x,.int (n:Nat),.ref ev]/\Bk C G H b l cs past/\n<=200/\(w=0\/w=2)/\(w=2->(cGet cs x).isSome=true)/\H ev=some (.lst ws)/\EvR H ws ls/\ls.length=manyW cs w x n/\(0 < manyW cs w x n->laysOf (nmW cs w x n) n∈ls/\∀ y∈ls,y=laysOf (nmW cs w x n) n\/DL (laysOf (nmW cs w x n) n) y)/\(∀ y∈ls,y.length<=1000)/\(∀ y∈ls,∀ z∈y,PyData.strOk z.2=true)/\∀ H',Same H H'->Q (.bl true) H'
theorem zfs:FnScope ["_law_book_here","_law_what","_law_word_here","_law_length","_law_every","_law_found","_law_best","_law_layings_here"] ["_law_book_here","_law_what","_law_word_here","_law_length","_law_every"] (defScope s_right):=⟨rfl,rfl,rfl,by decide +kernel,rfl,by decide +kernel,by decide +kernel⟩
theorem ok_right {ea:Nat->Addr} {ce:Value} {C:Addr} (D:DefAt K mg "_law_right" s_right) (T:Bn mg) (E14:EJ K ea ce 14) (C_ask:Callee P w K mg base "_law_ask" 6 ["_law_what","_law_book_here","_law_word_here","_law_length"] (sp_ask K ea ce C)) (C_told:Callee P w K mg base "_law_told" 2 ["_law_found","_law_due"] (sp_told K)) (C_refused:Callee P w K mg base "_law_refused" 2 ["_law_found","_law_due"] (sp_refused K)) (C_layings:Callee P w K mg base "_law_layings" 3 ["_law_found"] sp_layings):Callee P w K mg base "_law_right" 7 ["_law_book_here","_law_what","_law_word_here","_law_length","_law_every"] (sp_right37 C):=by
 refine D.callee zfs (fun _ _ _ _ _ _=>ln5 fun _ _ _ _ _=>rfl) (fun vs H Q E h => ?_) (fun f cdv A outer s H vs Q E hr h => ?_)
 ·obtain ⟨b,l,ev,G,cs,past,w,x,n,ws,ls,rfl,_⟩:=h
  rfl
 ·obtain ⟨b,l,ev,G,cs,past,w,x,n,ws,ls,rfl,B,hn,hw,hx,hev,er,hlen,hhd,hln,hok,q⟩:=h
  have S:=zfs
  have hwl:((ws.length:Nat):Int)=((manyW cs w x n:Nat):Int):=by rw [<- hlen,<- Paired.length er]
  refine ⟨_,zad (zaM (zbn (zbQ (zaK C_told (hr.mono (by decide)) rfl (zaa (zaK C_ask (hr.mono (by decide)) rfl (zaa (pv 1) (zaa (pv 0) (zaa (pv 2) (zaa (pv 3) zac))))) (zaa (zai zau rfl T.n_len PySem.boot_len (zaa (pv 4) zac)) zac)))))
   (zag (zaj (zb5)))
   (zao))
  (zad (zan (i:=5) S.nd rfl (Or.inl rfl) (zaK C_ask (hr.mono (by decide)) rfl (zaa (zax zbp (pv 1) (zab)) (zaa (pv 0) (zaa (pv 2) (zaa (pv 3) zac))))))
  (zad (zaM (zar (zfB hr.units) (pv 4) (zaU (zac)) (zaw _))
   (zag (zaj (zaK C_refused (hr.mono (by decide)) rfl (zaa (pv 5) (zaa (zas) zac)))))
   (zao))
  (zad (zan (i:=6) S.nd rfl (Or.inl rfl) (zaC zaI (pv 4) (zab) (fun _ _=>rfl)))
  (zad (zaY PassesOwn.never rfl (zav (pv 4)) (zam (i:=7) S.nd rfl (Or.inl rfl))
   (zag (zaM (zar (op_cmS .Lt (.inl rfl) hr.units) (za2 (own := ["_law_one"]) (caps := []) rfl ⟨rfl,rfl,rfl,rfl,trivial⟩ (zav (pv 7)) (fun _ _ _ _ _ _=>zam (i:=0) (zaT (by decide +kernel)) rfl (Or.inl rfl)) (fun _ _ _ _ _ _=>zbi) (fun _ _ _ _ _ _=>zaC (zeb K rfl) (pv 0) (zab) (fun _ _=>rfl))) (za2 (own := ["_law_one"]) (caps := []) rfl ⟨rfl,rfl,rfl,rfl,trivial⟩ (zav (pv 6)) (fun _ _ _ _ _ _=>zam (i:=0) (zaT (by decide +kernel)) rfl (Or.inl rfl)) (fun _ _ _ _ _ _=>zbi) (fun _ _ _ _ _ _=>zaC (zeb K rfl) (pv 0) (zab) (fun _ _=>rfl))) (zaw _))
    (zag (zan (i:=6) S.nd rfl (Or.inl rfl) (pv 7)))
    (zao))))
  (zag (zaj (zdF (zcc zb6 (zaC za5 (pv 5) (zab) (fun _ _=>rfl)) (zas) (zaw _)) (zdF (zaK C_layings (hr.mono (by decide)) rfl (zaa (zaC za5 (pv 5) (zab) (fun _ _=>rfl)) zac)) (zet (zcc (zfB hr.units) (zaC za5 (pv 5) (zab) (fun _ _=>rfl)) (pv 6) (zaw _))))))))))),?_⟩
  refine ⟨_,rfl,_,rfl,_,rfl,_,rfl,w,_,_,_,rfl,ask_many hw hx hn B fun fd H1 s1 hfd => ?_⟩
  rw [<- hwl] at hfd
  refine ⟨_,rfl,_,_,rfl,.inl (SqL.of (s1 _ _ hev)),fd,_,rfl,hfd,_,rfl,?_⟩
  refine iteF ?_
  refine ⟨_,rfl,_,_,rfl,rfl,_,rfl,_,rfl,_,rfl,w + 1,_,_,_,rfl,ask_first E14 hw hx hn (B.same s1) (fun hm fd r wl H2 s2 hfd hr lr => ?_) fun hm fd H2 s2 an => ?_⟩
  ·have s12:=s1.trans s2
   refine ⟨_,rfl,bigr rfl,fun le nle => ?_⟩
   have s3:Same H2 (upd H2 le (.lst [])):=Same.new nle
   have hle:upd H2 le (.lst []) le=some (.lst []):=zaf
   generalize upd H2 le (.lst [])=H3 at s3 hle ⊢
   have s13:=s12.trans s3
   have lne:ls ≠ []:=fun z=>by rw [z] at hlen; simp at hlen; omega
   refine ⟨.list (ls.map lyD),.list [],.lst (SqL.of (s13 _ _ hev)) (zhs (er.same s13)),.lst (SqL.of hle) .nil,zdd hok,by decide,_,rfl,?_⟩
   rw [if_neg Bool.false_ne_true,zgD,decide_eq_false lne]
   refine iteF ?_
   obtain ⟨hL0,hall⟩:=hhd hm
   generalize hL:laysOf (nmW cs w x n) n=L0 at hL0 hall
   have er3:EvR H3 ws ls:=er.same s13
   obtain ⟨y0,hy0⟩:∃ y0,ls[0]?=some y0:=by
    cases ls with
    | nil=>exact absurd rfl lne
    | cons y ls=>exact ⟨y,rfl⟩
   obtain ⟨v0,ev0,l0,wl0,rfl,hl0,ly0⟩:=Paired.at (i:=0) er3 hy0
   refine ⟨_,rfl,_,_,_,_,rfl,rfl,SqL.of (s13 _ _ hev),show atI ws ((0:Nat):Int)=_ from zay ev0,?_⟩
   refine ⟨_,rfl,_,rfl,⟨_,SqL.of (s13 _ _ hev)⟩,?_⟩
   refine zbz (zak K ev ws) (fun i σ Hy=>Same H3 Hy/\∃ (y:List (Nat×Str)) (lb:Addr) (wb:List V) (x7:Option V),σ = [some (.ref b),some (.int w),some (.str x),some (.int (n:Nat)),some (.ref ev),some (.ref fd),some (.ref lb),x7]/\Hy lb=some (.lst wb)/\LyR Hy wb y/\y∈ls/\(L0∈ls.take i->y=L0)) ⟨Same.refl _,y0,l0,wl0,_,rfl,hl0,ly0,List.mem_of_getElem? hy0,fun z=>by simp at z⟩ (fun i σ Hy _ h=>SqL.of (h.1 _ _ (s13 _ _ hev))) ?_ ?_
   ·rintro i v σ Hy hv ⟨sy,y,lb,wb,x7,rfl,hlb,lyb,hym,hyL⟩
    obtain ⟨z,ez,lz,wz,rfl,hlz,lyz⟩:=Paired.rev (er3.same sy) hv
    have hzm:=List.mem_of_getElem? ez
    have hwz:=(Paired.length lyz).symm
    have hwb:=(Paired.length lyb).symm
    have:=hln z hzm
    have:=hln y hym
    refine ⟨_,rfl,_,rfl,⟨_,SqL.of hlz⟩,fun D1 hD1 => ?_⟩
    refine zcQ (capv := []) (by rfl) (zak K lz wz) (big (by omega)) hD1 (fun H' s'=>SqL.of (s' _ _ hlz)) (fun _=>true) (fun u=>V.str (z.getD u (0,Str.ofString "")).2) (fun _ _ _=>nofun) (fun u v hv H'' R' s'' h'=>h' H'' (Same.refl _)) ?_ ?_
    ·intro u v hv _ H'' R' s'' h'
     obtain ⟨y1,ey,qy,rfl,e2⟩:=Paired.rev lyz hv
     refine ⟨_,rfl,_,_,_,_,rfl,rfl,SqT.of (s'' _ _ e2),at1,?_⟩
     have:=h' H'' (Same.refl _)
     rw [List.getD_eq_getElem?_getD,ey] at this
     exact this
    intro H5 s5 e5
    have e5:=zd5 hwz e5
    refine ⟨_,rfl,_,rfl,⟨_,SqL.of (s5 _ _ hlb)⟩,fun D2 hD2 => ?_⟩
    refine zcQ (capv := []) (by rfl) (zak K lb wb) (big (by omega)) hD2 (fun H' s'=>SqL.of (s' _ _ (s5 _ _ hlb))) (fun _=>true) (fun u=>V.str (y.getD u (0,Str.ofString "")).2) (fun _ _ _=>nofun) (fun u v hv H'' R' s'' h'=>h' H'' (Same.refl _)) ?_ ?_
    ·intro u v hv _ H'' R' s'' h'
     obtain ⟨y1,ey,qy,rfl,e2⟩:=Paired.rev lyb hv
     refine ⟨_,rfl,_,_,_,_,rfl,rfl,SqT.of (s'' _ _ (s5 _ _ e2)),at1,?_⟩
     have:=h' H'' (Same.refl _)
     rw [List.getD_eq_getElem?_getD,ey] at this
     exact this
    intro H6 s6 e6
    have e6:=zd5 hwb e6
    have s56:=s5.trans s6
    refine ⟨_,_,_,_,rfl,rfl,SqL.of (s6 _ _ e5),SqL.of e6,_,rfl,?_⟩
    show if ltS (z.map (·.2)) (y.map (·.2))=true then _ else _
    refine ite2 (fun hlt => ?_) (fun hge => ?_)
    ·refine ⟨_,rfl,sy.trans s56,z,lz,wz,_,rfl,s56 _ _ hlz,lyz.mono fun _ _ e=>s56 _ _ e,hzm,fun hin => ?_⟩
     rw [zaE ez] at hin
     rcases List.mem_append.mp hin with a | a
     ·rcases hall z hzm with b | b
      ·exact b
      ·rw [hyL a,b.lt.2] at hlt; cases hlt
     ·exact (List.mem_singleton.mp a).symm
    ·refine ⟨sy.trans s56,y,lb,wb,_,rfl,s56 _ _ hlb,lyb.mono fun _ _ e=>s56 _ _ e,hym,fun hin => ?_⟩
     rw [zaE ez] at hin
     rcases List.mem_append.mp hin with a | a
     ·exact hyL a
     ·have a:=List.mem_singleton.mp a
      rcases hall y hym with b | b
      ·exact b
      ·rw [<- a,b.lt.1] at hge; exact absurd rfl hge
   rintro σ Hy ⟨sy,y,lb,wb,x7,rfl,hlb,lyb,hym,hyL⟩
   have hy:y=L0:=hyL (by rw [<- Paired.length er3,List.take_length]; exact hL0)
   subst hy
   have s2y:=s3.trans sy
   refine ⟨_,rfl,_,_,_,_,rfl,rfl,SqT.of (s2y _ _ hfd),at0,rfl,_,rfl,?_⟩
   refine iteT ?_
   have lry:LaysR Hy wl _ n:=lr.mono fun _ _ e=>s2y _ _ e
   refine ⟨_,rfl,_,_,_,_,rfl,rfl,SqT.of (s2y _ _ hfd),at1,r,wl,rfl,s2y _ _ hr,lays_each2 lry,_,rfl,?_⟩
   refine iteT ?_
   refine ⟨_,rfl,_,_,_,_,rfl,rfl,SqT.of (s2y _ _ hfd),at1,_,rfl,lyD y,lyD y,.lst (SqL.of (s2y _ _ hr)) ?_,.lst (SqL.of hlb) (zhq lyb),zez (hok y hym),zez (hok y hym),?_⟩
   ·rw [<- hL]
    exact zhq (lays_ly lry)
   ·rw [if_neg Bool.false_ne_true,show PyData.eqv (lyD y) (lyD y)=true from zg6 y]
    exact q Hy (s13.trans sy)
  ·have s12:=s1.trans s2
   refine ⟨_,rfl,bigr rfl,fun le nle => ?_⟩
   have s3:Same H2 (upd H2 le (.lst [])):=Same.new nle
   have hle:upd H2 le (.lst []) le=some (.lst []):=zaf
   generalize upd H2 le (.lst [])=H3 at s3 hle ⊢
   have s13:=s12.trans s3
   have lne:ls = []:=List.length_eq_zero_iff.mp (by omega)
   subst lne
   refine ⟨.list (([]:List (List (Nat×Str))).map lyD),.list [],.lst (SqL.of (s13 _ _ hev)) (zhs (er.same s13)),.lst (SqL.of hle) .nil,zdd hok,by decide,_,rfl,?_⟩
   rw [if_neg Bool.false_ne_true,zgD,decide_eq_true rfl]
   obtain ⟨le',hfd,hle'⟩:=an.same s3
   exact iteT ⟨_,rfl,fd,le',errName 14,rfl,(errs_ok 14 (by decide)).1,hfd,hle',fun H4 s4=>q H4 (s13.trans s4)⟩
theorem zda {G:Addr->Prop} {H:Hp}:∀ {vs:List V} {ks:List (Str×List Int)} (n:Nat),KindsL G H vs ks->KindsL G H (vs.take n) (ks.take n)
 | _,_,0,_=>trivial
 | [],[],_ + 1,_=>trivial
 | _ :: _,_ :: _,n + 1,⟨a,b⟩=>⟨a,zda n b⟩
 | [],_ :: _,_ + 1,h=>h.elim
 | _ :: _,[],_ + 1,h=>h.elim
theorem drawn_take3 {G:Addr->Prop} {H:Hp} {vs:List V} {ks:List (Str×List Int)} (n:Nat) (d:Drawn G H vs ks):Drawn G H (vs.take n) (ks.take n) :=
 ⟨zda n d.rows,by rw [List.map_take]; exact d.nd.sublist (List.take_sublist n _),fun k hk=>d.good k (List.mem_of_mem_take hk)⟩
theorem cut_to3 (ws:List V) (n:Nat):cutV ws none (some (n:Int))=ws.take n:=by
 unfold cutV
 rw [HT.sIx_none,HT.sIx_nat,List.drop_zero,Nat.sub_zero]
 by_cases h:n<=ws.length
 ·rw [Nat.min_eq_left h]
 ·rw [Nat.min_eq_right (by omega),List.take_of_length_le (Nat.le_refl _),List.take_of_length_le (by omega)]
theorem name_ok {x:Str} (h:isName x=true):PyData.strOk x=true:=by
 unfold isName at h
 rw [Bool.and_eq_true] at h
 unfold PyData.strOk
 rw [Array.all_eq_true_iff_forall_mem]
 intro c hc
 have:=List.all_eq_true.mp h.2 c (by simpa using hc)
 unfold small at this
 simp at this ⊢
 omega
theorem zdO:∀ {a b:List Int},PyData.eqvAll (a.map PyData.int) (b.map PyData.int)=true ↔ a=b
 | [],[]=>by simp [PyData.eqvAll]
 | [],_ :: _=>by simp [PyData.eqvAll]
 | _ :: _,[]=>by simp [PyData.eqvAll]
 | x :: a,y :: b=>by
  have := @zdO a b
  rw [List.map_cons,List.map_cons,PyData.eqvAll,Bool.and_eq_true,this]
  simp [PyData.eqv]
theorem zcp (a:List Int):SeqAt.shaped (.list (a.map PyData.int))=true:=by
 have h1:PyData.canLayAll0 (a.map PyData.int)=true:=by
  induction a with
  | nil=>rfl
  | cons x a ih=>rw [List.map_cons,PyData.canLayAll0,ih]; rfl
 have h2:∀ a:List Int,PyData.depthAll (a.map PyData.int)=0:=by
  intro a
  induction a with
  | nil=>rfl
  | cons x a ih=>rw [List.map_cons,PyData.depthAll,ih]; rfl
 simp [SeqAt.shaped,PyData.canLay0,PyData.depth,h1,h2]
theorem zer (m:Nat) (v:V):(List.replicate m [v]).flatten=List.replicate m v:=by
 induction m with
 | zero=>rfl
 | succ m ih=>rw [List.replicate_succ,List.flatten_cons,ih,List.replicate_succ]; rfl
theorem tally37 {ks:Combs} (g:GC ks) {n:Nat} {l:List (Nat×Str)} (hl:l∈chs ks n):((List.range (n + 8)).map fun q=>((cov ks l q:Nat):Int))=List.replicate n 1 ++ List.replicate 8 0 ↔ shpB ks n 0 l=true:=by
 rw [zeO g hl]
 have hr:(List.replicate n (1:Int) ++ List.replicate 8 0)=(List.range (n + 8)).map fun q=>(((if q < n then 1 else 0:Nat)):Int):=by
  refine List.ext_getElem (by simp) fun i h1 h2 => ?_
  rw [List.getElem_map,List.getElem_range,List.getElem_append]
  split
  ·rename_i h
   rw [List.length_replicate] at h
   rw [List.getElem_replicate,if_pos h]; rfl
  ·rename_i h
   rw [List.length_replicate] at h
   rw [List.getElem_replicate,if_neg h]; rfl
 rw [hr]
 constructor
 ·intro h q
  by_cases hq:q < n + 8
  ·have:=congrArg (fun l:List Int=>l[q]?) h
   simp only [List.getElem?_map,List.getElem?_range hq,Option.map_some] at this
   exact Int.ofNat_inj.mp (Option.some.inj this)
  ·rw [zcg g hl (by omega),if_neg (by omega)]
 ·intro h
  exact List.map_congr_left fun q _=>by rw [h q]
theorem zgX:FnScope ["_law_script","_law_kinds","_law_length","_law_every","_law_layings_here","_law_over","_law_book_here","_law_fits","_law_word_here","_law_teeth_here","_law_some"] ["_law_script"] (defScope s_law):=⟨rfl,rfl,rfl,by decide +kernel,rfl,by decide +kernel,by decide +kernel⟩
theorem ok_law {ea:Nat->Addr} {C:Addr} (D:DefAt K mg "law" s_law) (T:Bn mg) (C_at:Callee P w K mg base "_law_at" 1 ["_law_script","_law_k"] (sp_at K)) (C_combs:Callee P w K mg base "_law_combs" 2 ["_law_script"] (sp_combs K)) (C_choices:Callee P w K mg base "_law_choices" 1 ["_law_kinds","_law_many"] sp_choices) (C_tally:Callee P w K mg base "_law_tally" 2 ["_law_kinds","_law_layings_here","_law_many"] sp_tally) (C_book:Callee P w K mg base "_law_book" 4 ["_law_kinds"] (sp_mkbook C)) (C_fits_flush:Callee1 P w K mg base "fits_flush" 5 ["book","length"] (sp_fitsf ea C)) (C_right:Callee P w K mg base "_law_right" 7 ["_law_book_here","_law_what","_law_word_here","_law_length","_law_every"] (sp_right37 C)):Callee P w K mg base "law" 8 ["_law_script"] (spLaw K):=by
 refine D.callee zgX (fun _ _ _ _ _ _=>ln1 fun _=>rfl) (fun vs H Q E h => ?_) (fun f cdv A outer s H vs Q E hr h => ?_)
 ·obtain ⟨a,ns,rfl,_⟩:=h
  rfl
 ·obtain ⟨a,ns,rfl,hS,hl,q⟩:=h
  have S:=zgX
  refine ⟨_,zad (zan (i:=1) S.nd rfl (Or.inl rfl) (zfz zfV (zaK C_combs (hr.mono (by decide)) rfl (zaa (pv 0) zac)) (zgf) (zge (zab))))
  (zad (zan (i:=2) S.nd rfl (Or.inl rfl) (zax zbl (zaK C_at (hr.mono (by decide)) rfl (zaa (pv 0) (zaa (zab) zac))) (zaC zaI (zaU (zaa (zab) (zaa (zab) (zaa (zab) (zaa (zab) zac))))) (zai zau rfl T.n_len PySem.boot_len (zaa (pv 1) zac)) (fun _ _=>rfl))))
  (zad (zan (i:=3) S.nd rfl (Or.inl rfl) (zaU (zac)))
  (zad (zaY PassesOwn.never rfl (zav (zaK C_choices (hr.mono (by decide)) rfl (zaa (pv 1) (zaa (pv 2) zac)))) (zam (i:=4) S.nd rfl (Or.inl rfl))
   (zad (zan (i:=5) S.nd rfl (Or.inl rfl) (zaK C_tally (hr.mono (by decide)) rfl (zaa (pv 1) (zaa (pv 4) (zaa (zax zbp (pv 2) (zab)) zac)))))
   (zag (zaM (zar (zfB hr.units) (pv 5) (zax zbS (zax zgl (zaU (zaa (zab) zac)) (pv 2)) (zax zgl (zaU (zaa (zab) zac)) (zab))) (zaw _))
    (zag (zaS (zdm PySem.F.plainAttrs_list PySem.F.slot_list_append PySem.F.type_list_append zaW (pv 3) (zaa (pv 4) zac))))
    (zao)))))
  (zad (zan (i:=6) S.nd rfl (Or.inl rfl) (zaK C_book (hr.mono (by decide)) rfl (zaa (pv 1) zac)))
  (zad (zan (i:=7) S.nd rfl (Or.inl rfl) (zbf C_fits_flush (hr.mono (by decide)) (by first | exact zat | exact zbg | exact zaz) rfl (zaa (pv 6) (zaa (pv 2) zac))))
  (zad (zaM (PW.pt (zfS (zbn (zbQ (zai (zbx "bool") rfl T.n_isinstance boot_isinstance (zaa (pv 7) (zaa (zbX (v := .ty "bool") rfl T.n_bool boot_bool rfl) zac))))) (zfw (zar zev (pv 7) (zcc (op_neD hr.units) (pv 3) (zaU (zac)) (zaw _)) (zaw _)))))
   (zag (zaj (zb5)))
   (zao))
  (zad (zaM (zbn (zbQ (zaK C_right (hr.mono (by decide)) rfl (zaa (pv 6) (zaa (zab) (zaa (zas) (zaa (pv 2) (zaa (pv 3) zac))))))))
   (zag (zaj (zb5)))
   (zao))
  (zad (zaY PassesOwn.never rfl (zav (pv 1)) (zfy rfl (zbd (zam (i:=8) S.nd rfl (Or.inr rfl)) (zbd (zam (i:=9) S.nd rfl (Or.inl rfl)) (zc2))))
   (zad (zgc (i:=10) S.nd rfl (Or.inl rfl) (own := ["_law_row"]) (caps := [(8,"_law_word_here")]) rfl ⟨rfl,rfl,rfl,rfl,⟨⟨rfl,rfl,.inl rfl⟩,trivial⟩⟩ (zav (pv 3)) (fun _ _ _ _ _ _=>zam (i:=0) (zaT (by decide +kernel)) rfl (Or.inl rfl)) (fun _ _ _ _ _ _=>zcH (zar (op_in_seq' K rfl) (pv 1) (za2 (own := ["_law_one"]) (caps := []) rfl ⟨rfl,rfl,rfl,rfl,trivial⟩ (pi_list' K rfl (pv 0)) (fun _ _ _ _ _ _=>zam (i:=0) (zaT (by decide +kernel)) rfl (Or.inl rfl)) (fun _ _ _ _ _ _=>zbi) (fun _ _ _ _ _ _=>zaC (zeb K rfl) (pv 0) (zab) (fun _ _=>rfl))) (by with_unfolding_all rfl))) (fun _ _ _ _ _ _=>pv 0))
   (zag (zaM (zbn (zbQ (zaK C_right (hr.mono (by decide)) rfl (zaa (pv 6) (zaa (zab) (zaa (pv 8) (zaa (pv 2) (zaa (pv 10) zac))))))))
    (zag (zaj (zb5)))
    (zao)))))
  (zag (zaj (zb5))))))))))),?_⟩
  refine ⟨_,rfl,a,ns,rfl,hS,fun pk0 ks0 ws0 H0 s0 npk0 hpk0 dr0 hk80 => ?_⟩
  refine ⟨_,rfl,pk0,ws0,rfl,SqL.of hpk0,fun pk npk => ?_⟩
  have e3:cutV ws0 none (some (3:Int))=ws0.take 3:=cut_to3 ws0 3
  rw [e3]
  have s1:Same H0 (upd H0 pk (.lst (ws0.take 3))):=Same.new npk
  have hpk:upd H0 pk (.lst (ws0.take 3)) pk=some (.lst (ws0.take 3)):=zaf
  have dr:=drawn_take3 3 (dr0.same s1)
  have hk3:(ks0.take 3).length<=3:=by rw [List.length_take]; omega
  have s01:=s0.trans s1
  generalize upd H0 pk (.lst (ws0.take 3))=H1 at s01 hpk dr ⊢
  generalize ws0.take 3=ws at hpk dr ⊢
  generalize ks0.take 3=ks at dr hk3
  have hS1:=s01.seq hS
  clear hpk0 npk s1
  have gc:GC ks:=fun c hc=>(dr.good c hc).2
  have pm:=zco dr.nd
  have nek:∀ c∈ks,c.1≠Str.ofString "" := fun c hc z=>by
   have:=(dr.good c hc).1
   rw [z] at this
   exact absurd this (by decide +kernel)
  have hlw:=dr.rows.length
  refine ⟨_,rfl,a,ns,9,rfl,hS1,by decide,bigr rfl,fun pl npl => ?_⟩
  have s2:Same H1 (upd H1 pl (.lst [.int 7,.int 7,.int 7,.int 6])):=Same.new npl
  have hpl:upd H1 pl (.lst [.int 7,.int 7,.int 7,.int 6]) pl=some (.lst [.int 7,.int 7,.int 7,.int 6]):=zaf
  generalize upd H1 pl (.lst [.int 7,.int 7,.int 7,.int 6])=H2 at s2 hpl ⊢
  obtain ⟨md,hat,hm1,hm7,hbd⟩:∃ md:Nat,atI [V.int 7,V.int 7,V.int 7,V.int 6] ((ws.length:Nat):Int)=some (.int (md:Nat))/\0 < md/\md<=7/\(ks.length + 1) ^ (md - 1)<=1100:=by
   rw [hlw]
   have:ks.length=0\/ks.length=1\/ks.length=2\/ks.length=3:=by omega
   rcases this with z | z | z | z <;> rw [z]
   ·exact ⟨7,rfl,by decide,by decide,by decide⟩
   ·exact ⟨7,rfl,by decide,by decide,by decide⟩
   ·exact ⟨7,rfl,by decide,by decide,by decide⟩
   ·exact ⟨6,rfl,by decide,by decide,by decide⟩
  have hpk2:=s2 _ _ hpk
  refine ⟨_,rfl,_,_,rfl,.inl (SqL.of hpk2),_,_,_,_,rfl,rfl,SqL.of hpl,hat,_,_,rfl,rfl,show (0:Int) < ((md:Nat):Int) by omega,?_⟩
  obtain ⟨n,en,hn⟩:∃ n:Nat,ns.getD (9:Int).toNat 0 % ((md:Nat):Int)=(n:Nat)/\n < md:=by
   have h1:=Int.emod_nonneg (ns.getD (9:Int).toNat 0) (show ((md:Nat):Int)≠0 by omega)
   have h2:=Int.emod_lt_of_pos (ns.getD (9:Int).toNat 0) (show (0:Int) < ((md:Nat):Int) by omega)
   exact ⟨(ns.getD (9:Int).toNat 0 % ((md:Nat):Int)).toNat,by omega,by omega⟩
  show gName 2 (V.int (ns.getD (9:Int).toNat 0 % ((md:Nat):Int))) _ _ _
  rw [en]
  have hb:(ks.length + 1) ^ n<=1100:=Nat.le_trans (Nat.pow_le_pow_right (by omega) (by omega)) hbd
  refine ⟨bigr rfl,fun ev nev => ?_⟩
  have s3:Same H2 (upd H2 ev (.lst [])):=Same.new nev
  have hev3:upd H2 ev (.lst []) ev=some (.lst []):=zaf
  have dr2:=dr.same s2
  generalize hH3:upd H2 ev (.lst [])=H3 at s3 hev3 ⊢
  refine ⟨_,rfl,_,rfl,pk,n,ws,ks,rfl,s3 _ _ hpk2,(dr2.same s3).any.rows,hb,by omega,fun r wr H4 s4 hr4 cr => ?_⟩
  have s24:=s3.trans s4
  have hlr:=Paired.length cr
  have hlc:(chs ks n).length<=1100:=by rw [zeg]; exact hb
  have hrev:r≠ev:=fun z=>by
   rw [z,s4 _ _ hev3] at hr4
   have e:wr = []:=by injection hr4 with hr4; injection hr4 with hr4; exact hr4.symm
   rw [e,zeg] at hlr
   exact absurd hlr (Nat.ne_of_gt (Nat.pow_pos (Nat.succ_pos _)))
  have nq:∀ q,H3 q=none->q≠ev:=fun q hq z=>by rw [z,hev3] at hq; cases hq
  refine ⟨_,rfl,⟨_,SqL.of hr4⟩,?_⟩
  refine zbz (zak K r wr) (fun i σ Hy=>(∀ q o,q≠ev->H4 q=some o->Hy q=some o)/\Same H2 Hy/\∃ (we:List V) (x4 x5:Option V),σ = [some (.ref a),some (.ref pk),some (.int (n:Nat)),some (.ref ev),x4,x5,none,none,none,none,none]/\Hy ev=some (.lst we)/\ChR (fun q=>q≠ev) Hy we (((chs ks n).take i).filter (shpB ks n 0))) ⟨fun _ _ _ e=>e,s24,[],_,_,rfl,s4 _ _ hev3,.nil⟩ (fun i σ Hy _ h=>SqL.of (h.1 _ _ hrev hr4)) ?_ ?_
  ·rintro i y σ Hy hy ⟨ky,sy,we,x4,x5,rfl,hev,er⟩
   obtain ⟨l,el,q1,vs1,rfl,hq1n,hq1,hl1⟩:=Paired.rev cr hy
   have hq1e:=nq q1 hq1n
   have kt:∀ q xs,H4 q=some (.tup xs)->Hy q=some (.tup xs):=fun q xs e=>ky _ _ (fun z=>by rw [z,s4 _ _ hev3] at e; cases e) e
   have hlm:=List.mem_of_getElem? el
   have hil:i < (chs ks n).length:=(List.getElem?_eq_some_iff.mp el).1
   have e8:((n:Nat):Int) + 8=((n + 8:Nat):Int):=by omega
   have hq1y:=ky _ _ hq1e hq1
   have ly1:LyR Hy vs1 l:=hl1.mono kt
   refine ⟨_,rfl,_,rfl,_,rfl,_,_,rfl,rfl,pk,q1,n + 8,ws,vs1,ks,l,by rw [<- e8]; rfl,sy _ _ hpk2,(dr2.same sy).any,hq1y,ly1,by omega,fun x hx => ?_,fun o H5 s5 ho => ?_⟩
   ·have:=zdg hlm x hx
    exact ⟨by omega,this.2⟩
   have hel:we.length<=i:=by
    rw [<- Paired.length er]
    exact Nat.le_trans (List.length_filter_le _ _) (by rw [List.length_take]; omega)
   refine ⟨_,rfl,bigr rfl,fun p1 np1 => ?_⟩
   have s6:Same H5 (upd H5 p1 (.lst [.int 1])):=Same.new np1
   have hp1:upd H5 p1 (.lst [.int 1]) p1=some (.lst [.int 1]):=zaf
   generalize upd H5 p1 (.lst [.int 1])=H6 at s6 hp1 ⊢
   refine ⟨_,rfl,_,_,_,rfl,rfl,hp1,by omega,by omega,big (by rw [List.length_singleton]; omega),fun p2 np2 => ?_⟩
   rw [zer,show ((n:Nat):Int).toNat=n by omega]
   have s7:Same H6 (upd H6 p2 (.lst (List.replicate n (V.int 1)))):=Same.new np2
   have hp2:upd H6 p2 (.lst (List.replicate n (V.int 1))) p2=some (.lst (List.replicate n (V.int 1))):=zaf
   generalize upd H6 p2 (.lst (List.replicate n (V.int 1)))=H7 at s7 hp2 ⊢
   refine ⟨bigr rfl,fun p3 np3 => ?_⟩
   have s8:Same H7 (upd H7 p3 (.lst [.int 0])):=Same.new np3
   have hp3:upd H7 p3 (.lst [.int 0]) p3=some (.lst [.int 0]):=zaf
   generalize upd H7 p3 (.lst [.int 0])=H8 at s8 hp3 ⊢
   refine ⟨_,_,_,rfl,rfl,hp3,by decide,by decide,bigr rfl,fun p4 np4 => ?_⟩
   rw [zer,show (8:Int).toNat=8 from rfl]
   have s9:Same H8 (upd H8 p4 (.lst (List.replicate 8 (V.int 0)))):=Same.new np4
   have hp4:upd H8 p4 (.lst (List.replicate 8 (V.int 0))) p4=some (.lst (List.replicate 8 (V.int 0))):=zaf
   generalize upd H8 p4 (.lst (List.replicate 8 (V.int 0)))=H9 at s9 hp4 ⊢
   refine ⟨_,_,_,_,rfl,rfl,s9 _ _ (s8 _ _ hp2),hp4,big (by rw [List.length_replicate,List.length_replicate]; omega),fun p5 np5 => ?_⟩
   have s10:Same H9 (upd H9 p5 (.lst (List.replicate n (V.int 1) ++ List.replicate 8 (V.int 0)))):=Same.new np5
   have hp5:upd H9 p5 (.lst (List.replicate n (V.int 1) ++ List.replicate 8 (V.int 0))) p5=some (.lst (List.replicate n (V.int 1) ++ List.replicate 8 (V.int 0))):=zaf
   generalize upd H9 p5 (.lst (List.replicate n (V.int 1) ++ List.replicate 8 (V.int 0)))=H10 at s10 hp5 ⊢
   have s510:=((s6.trans s7).trans (s8.trans s9)).trans s10
   have hints:∀ {K':W.Frag} (ns:List Int),VDs K' H10 (ns.map V.int) (ns.map PyData.int):=fun ns=>VDs.map fun u _ => .int u
   have ha:H10 o=some (.lst (((List.range (n + 8)).map fun q=>((cov ks l q:Nat):Int)).map V.int)):=by
    rw [s510 _ _ ho]
    unfold ovC
    rw [List.map_map]
    rfl
   have hb5:H10 p5=some (.lst ((List.replicate n (1:Int) ++ List.replicate 8 0).map V.int)):=by
    rw [hp5,List.map_append,List.map_replicate,List.map_replicate]
   refine ⟨.list (((List.range (n + 8)).map fun q=>((cov ks l q:Nat):Int)).map PyData.int),.list ((List.replicate n (1:Int) ++ List.replicate 8 0).map PyData.int),.lst (SqL.of ha) (hints _),.lst (SqL.of hb5) (hints _),zcp _,zcp _,_,rfl,?_⟩
   have s5':=s5.trans s510
   have kz:∀ q o,q≠ev->H4 q=some o->H10 q=some o:=fun q o nz e=>s5' _ _ (ky _ _ nz e)
   have hev10:=s5' _ _ hev
   have hsh:PyData.eqv (.list (((List.range (n + 8)).map fun q=>((cov ks l q:Nat):Int)).map PyData.int)) (.list ((List.replicate n (1:Int) ++ List.replicate 8 0).map PyData.int))=shpB ks n 0 l:=by
    rw [Bool.eq_iff_iff,<- tally37 gc hlm,<- zdO]
    rfl
   rw [if_neg Bool.false_ne_true,hsh]
   have etk:((chs ks n).take (i + 1)).filter (shpB ks n 0)=((chs ks n).take i).filter (shpB ks n 0) ++ if shpB ks n 0 l=true then [l] else []:=by
    rw [zaE el,List.filter_append,List.filter_cons,List.filter_nil]
   rw [etk]
   refine ite2 (fun hz => ?_) (fun hz => ?_)
   ·rw [if_pos hz]
    refine ⟨_,rfl,.inl ⟨rfl,_,SqL.of hev10⟩,_,rfl,ev,we,_,rfl,rfl,hev10,Nat.lt_of_lt_of_le (by omega:we.length < 1200) (by decide),?_⟩
    have km:∀ qq oo,qq≠ev->H10 qq=some oo->upd H10 ev (.lst (we ++ [.ref q1])) qq=some oo:=fun qq oo nz e=>by rw [zah nz]; exact e
    have kmt:∀ qq xs,H10 qq=some (.tup xs)->upd H10 ev (.lst (we ++ [.ref q1])) qq=some (.tup xs):=fun qq xs e=>km _ _ (fun z=>by rw [z,hev10] at e; cases e) e
    refine ⟨fun qq oo nz e=>km _ _ nz (kz _ _ nz e),(sy.trans s5').put nev,_,_,_,rfl,zaf,?_⟩
    exact ChR.snoc (er.mono (fun _ z _=>z) (fun qq oo z e=>km _ _ z (s5' _ _ e)) fun qq xs e=>kmt _ _ (s5' _ _ e)) (by rw [zah hq1e]; exact s5' _ _ hq1y) hq1e (ly1.mono fun _ _ e=>kmt _ _ (s5' _ _ e))
   ·rw [if_neg hz,List.append_nil]
    exact ⟨kz,sy.trans s5',we,_,_,rfl,hev10,er.mono (fun _ z _=>z) (fun qq oo _ e=>s5' _ _ e) fun qq xs e=>s5' _ _ e⟩
  rintro σ Hx ⟨kx,sx,we,x4,x5,rfl,hev,cr2⟩
  rw [<- hlr,List.take_length] at cr2
  have er:EvR Hx we (cvs ks n):=Paired.mapP cr2 fun _ _ ⟨q,vs,e1,_,e2,e3⟩=>⟨q,vs,e1,e2,e3⟩
  clear kx cr2 cr
  have hpkx:=sx _ _ hpk2
  have drx:=(dr2.same sx).any
  have hwe:we.length=(cvs ks n).length:=(Paired.length er).symm
  have hcv:(cvs ks n).length<=1100:=Nat.le_trans (List.length_filter_le _ _) hlc
  have hlenE:=cvs_len gc dr.nd nek n
  have fact:∀ x∈cvs ks n,x∈chs ks n:=fun x hx=>(List.mem_filter.mp hx).1
  have hok:∀ x∈cvs ks n,∀ z∈x,PyData.strOk z.2=true:=fun x hx z hz=>by
   obtain ⟨c,hc,e⟩:=List.mem_map.mp ((zdg (fact x hx) z hz).2)
   rw [<- e]
   exact name_ok (dr.good c hc).1
  have hln:∀ x∈cvs ks n,x.length<=1000:=fun x hx=>Nat.le_trans (ze7 (fact x hx)) (by omega)
  refine ⟨_,rfl,pk,ws,ks,rfl,hpkx,drx,by omega,fun b l G past H13 s13 nb nl nG B hpast => ?_⟩
  obtain ⟨gcs,hs8⟩:=zcF B
  have h0:0<=((n:Nat):Int)/\((n:Nat):Int)<=1000000000000:=⟨by omega,by omega⟩
  refine ⟨_,rfl,_,rfl,b,l,G,ks,past,_,rfl,B,?_⟩
  rw [if_pos h0,show ((n:Nat):Int).toNat=n by omega]
  intro H14 s14
  refine ⟨_,rfl,_,_,true,rfl,.bl _,rfl,_,rfl,?_⟩
  refine iteF ?_
  refine ⟨_,rfl,_,rfl,bigr rfl,fun le nle => ?_⟩
  have s15:Same H14 (upd H14 le (.lst [])):=Same.new nle
  have hle:upd H14 le (.lst []) le=some (.lst []):=zaf
  generalize upd H14 le (.lst [])=H15 at s15 hle ⊢
  have sx15:=(s13.trans s14).trans s15
  refine ⟨.list ((cvs ks n).map lyD),.list [],.lst (SqL.of (sx15 _ _ hev)) (zhs (er.same sx15)),.lst (SqL.of hle) .nil,zdd hok,by decide,?_⟩
  have efit:decide (0∈rowN (srt ks) n) = !PyData.eqv (.list ((cvs ks n).map lyD)) (.list []):=by
   rw [zgD,Bool.eq_iff_iff,decide_eq_true_eq,zc1 gcs,<- Wy_pos,<- hlenE,Bool.not_eq_true',decide_eq_false_iff_not,List.length_pos_iff]
  rw [<- efit]
  refine ⟨rfl,_,rfl,?_⟩
  rw [if_pos rfl]
  rw [decide_eq_true (rfl:V.bl (decide (0∈rowN (srt ks) n))=V.bl (decide (0∈rowN (srt ks) n)))]
  refine iteF ?_
  have B15:=B.same (s14.trans s15)
  have er15:=er.same sx15
  refine ⟨_,rfl,_,rfl,_,rfl,b,l,ev,G,ks,past,0,Str.ofString "",n,we,_,rfl,B15,by omega,.inl rfl,(fun z=>by cases z),sx15 _ _ hev,er15,hlenE,(fun hm=>cvs_first gc dr.nd nek hm),hln,hok,fun H16 s16=>⟨_,rfl,?_⟩⟩
  refine iteF ?_
  have sx16:=sx15.trans s16
  have B16:=B15.same s16
  refine ⟨_,rfl,_,rfl,⟨_,SqL.of (sx16 _ _ hpkx)⟩,?_⟩
  refine zbz (zak K pk ws) (fun _ σ Hy=>Same H16 Hy/\∃ x8 x9 x10,σ = [some (.ref a),some (.ref pk),some (.int (n:Nat)),some (.ref ev),x4,x5,some (.ref b),some (.bl (decide (0∈rowN (srt ks) n))),x8,x9,x10]) ⟨Same.refl _,_,_,_,rfl⟩ (fun _ σ Hx _ h=>SqL.of (h.1 _ _ (sx16 _ _ hpkx))) ?_ ?_
  ·rintro j y σ Hy hy ⟨sy,x8,x9,x10,rfl⟩
   obtain ⟨kk',qa,t,hk',rfl,hq,ht⟩:=((drx.same sx16).same sy).rows.get hy
   have hkm:=List.mem_of_getElem? hk'
   have hkne:=nek _ hkm
   refine ⟨qa,_,rfl,SqL.of hq,rfl,_,_,rfl,_,_,rfl,rfl,?_⟩
   have sxy:=sx16.trans sy
   have er1:=er.same sxy
   refine ⟨_,rfl,_,rfl,⟨_,SqL.of (sxy _ _ hev)⟩,fun D hD => ?_⟩
   have hvD:∀ i,i < we.length->we.getD i .non ≠ .ref D:=fun i hi z=>by
    obtain ⟨x,ex,l1,wl1,e,hl1,ly1⟩:=Paired.rev er1 (List.getElem?_eq_getElem hi)
    rw [List.getD_eq_getElem?_getD,List.getElem?_eq_getElem hi,Option.getD_some,e] at z
    injection z with z
    rw [z,hD] at hl1
    cases hl1
   refine zcQ (capv := [some (.str kk'.1)]) (by rfl) (zak K ev we) (Nat.le_trans (show we.length<=1200 by omega) (by decide)) hD (fun H' s'=>SqL.of (s' _ _ (sxy _ _ hev))) (fun i=>has kk'.1 ((cvs ks n).getD i [])) (fun i=>we.getD i .non) (fun i hi _=>hvD i hi) ?_ ?_ ?_
   ·intro i x hx H' R s' h
    obtain ⟨lx,ex,l1,wl1,rfl,hl1,ly1⟩:=Paired.rev (er1.same s') hx
    have hwl1:wl1.length<=1000:=by
     rw [<- Paired.length ly1]
     exact hln _ (List.mem_of_getElem? ex)
    refine ⟨_,rfl,_,rfl,_,rfl,⟨_,SqL.of hl1⟩,fun D2 hD2 => ?_⟩
    refine zcQ (capv := []) (by rfl) (zak K l1 wl1) (big hwl1) hD2 (fun H' s'=>SqL.of (s' _ _ hl1)) (fun _=>true) (fun u=>V.str (lx.getD u (0,Str.ofString "")).2) (fun _ _ _=>nofun) (fun u z hz H'' R' s'' h'=>h' H'' (Same.refl _)) ?_ ?_
    ·intro u z hz _ H'' R' s'' h'
     obtain ⟨y1,ey,qy,rfl,e2⟩:=Paired.rev ly1 hz
     refine ⟨_,rfl,_,_,_,_,rfl,rfl,SqT.of (s'' _ _ e2),at1,?_⟩
     have:=h' H'' (Same.refl _)
     rw [List.getD_eq_getElem?_getD,ey] at this
     exact this
    intro H'' s'' e''
    have e3:=zd5 (Paired.length ly1).symm e''
    refine ⟨_,_,rfl,.inl (SqL.of e3),rfl,by simp [flatV],_,rfl,?_⟩
    rw [if_neg Bool.false_ne_true,ze2]
    have:=h H'' s''
    rw [List.getD_eq_getElem?_getD,ex] at this
    exact this
   ·intro i x hx _ H' R s' h
    refine ⟨_,rfl,?_⟩
    have:=h H' (Same.refl _)
    rw [List.getD_eq_getElem?_getD,hx] at this
    exact this
   intro H17 s17 e17
   have er17:EvR H17 _ ((cvs ks n).filter (has kk'.1)):=paired_filter [] (er1.same s17) (has kk'.1)
   have hev2:=e17
   generalize (((List.range we.length).filter fun i=>has kk'.1 ((cvs ks n).getD i [])).map fun i=>we.getD i .non)=wf at er17 hev2
   have hget:(cGet ks kk'.1).isSome=true:=by rw [zcI dr.nd hkm]; rfl
   refine ⟨_,rfl,_,rfl,_,rfl,_,rfl,b,l,D,G,ks,past,2,kk'.1,n,wf,_,rfl,(B16.same sy).same s17,by omega,.inr rfl,(fun _=>hget),hev2,er17,cvs_with gc dr.nd nek hkne n,(fun hm=>cvs_first_with gc dr.nd nek hkne hm),(fun x hx=>hln x (List.mem_filter.mp hx).1),fun x hx=>hok x (List.mem_filter.mp hx).1,fun H18 s18=>⟨_,rfl,?_⟩⟩
   exact iteF ⟨(sy.trans s17).trans s18,_,_,_,rfl⟩
  ·rintro σ Hy ⟨sy,x8,x9,x10,rfl⟩
   exact q _
end
theorem walk {l:PySem.W.OpenLaw} {q:Program} {loose:List Str} {XP:(Str->Option Value)->Heap->Prop} {YP:World->Heap->Prop} {d:DefRec} {K:Params->W.Frag} (hn:l.most=some 63) (hdf:d.params.defaults = [])
  (hY:∀ (w:World) (h:Heap),YP w h->(K w.params).In h)
  (F:∀ (w:World) (mg:Str->Option Value) (fa:Addr) (h:Heap),(K w.params).In h->h.Ns mainGlobals mg->mg d.name=some (.ref fa) ->
   ∃ fd:FuncData,(∀ (s:Shared) (u:Value),BindsTo s fd ⟨[u],[]⟩ [("_law_script",u)])/\∀ base:Heap,(K w.params).In base->base.Ns mainGlobals mg->FnOk l.prog w (K w.params) mg base CX0 8 fa fd ["_law_script"] (spLaw (K w.params))) :
  PySem.W.WalkO q loose XP YP l.row.toRowW d [] (fun f vs=>PySem.call f vs) :=
 L2.walk_of (n:=63) (k:=8) (x := "_law_script") (CX:=fun _=>CX0) (sp:=fun w=>spLaw (K w.params)) hn (by decide) hdf ⟨rfl,by decide,by decide⟩ hY F (fun _ _ a ns hl _ hS=>⟨a,ns,rfl,hS,hl,fun _=>rfl⟩) fun _ _ _ _ _ z=>z
theorem all {l:PySem.W.OpenLaw} {w:World} {K:W.Frag} {h:Heap} {mg:Str->Option Value} {fa:Addr} (X:K.In h) (G:h.Ns mainGlobals mg) (hfa:mg "law" = some (.ref fa)) (T:Bn mg)
  (V_MOST_COMBS:∃ t,mg "MOST_COMBS" = some (.int 8 t))
  (V_MOST_NAME:∃ t,mg "MOST_NAME" = some (.int 6 t))
  (V_MOST_TOOTH:∃ t,mg "MOST_TOOTH" = some (.int 7 t))
  (V_MOST_DEEDS:∃ t,mg "MOST_DEEDS" = some (.int 300 t))
  (V_SHAPES:∃ t,mg "SHAPES" = some (.int 128 t))
  (V_MOST_LENGTH:∃ t,mg "MOST_LENGTH" = some (.int 1000000000000 t))
  (V_MOST_FILLED:∃ t,mg "MOST_FILLED" = some (.int 200 t))
  {t_TOOTH_WORTH:Addr} (G_TOOTH_WORTH:mg "TOOTH_WORTH" = some (.ref t_TOOTH_WORTH)) (TC_TOOTH_WORTH:tupChk K t_TOOTH_WORTH [1,2,4,8,16,32,64,128]=true)
  {C ce a0 a1 a2 a3 a4 a5 a6 a7 a8 a9 a10 a11 a12 a13 a14:Addr}
  (R0:mg "BadName" = some (.ref a0))
  (R1:mg "BadTeeth" = some (.ref a1))
  (R2:mg "NameTaken" = some (.ref a2))
  (R3:mg "BookFull" = some (.ref a3))
  (R4:mg "NoComb" = some (.ref a4))
  (R5:mg "BadTooth" = some (.ref a5))
  (R6:mg "ToothThere" = some (.ref a6))
  (R7:mg "FirstTooth" = some (.ref a7))
  (R8:mg "ToothMissing" = some (.ref a8))
  (R9:mg "DeedsFull" = some (.ref a9))
  (R10:mg "NothingDone" = some (.ref a10))
  (R11:mg "BadShape" = some (.ref a11))
  (R12:mg "BadPlace" = some (.ref a12))
  (R13:mg "BadLength" = some (.ref a13))
  (R14:mg "NoFilling" = some (.ref a14))
  (RCE:mg "CombError" = some (.ref ce)) (HCHK:errChk K [a0,a1,a2,a3,a4,a5,a6,a7,a8,a9,a10,a11,a12,a13,a14] ce [0,1,2,3,4,9,11,13,14]=true)
  (INIT:InitAt K mg C "Book" "Book.__init__" s_Book___init__) (BCHK:bookChk K C=true)
  (N_put:MethAt K C "Book" "put" s_Book_put)
  (N_names:MethAt K C "Book" "names" s_Book_names)
  (N_teeth:MethAt K C "Book" "teeth" s_Book_teeth)
  (N_check_comb:MethAt K C "Book" "check_comb" s_Book_check_comb)
  (N_set_comb:MethAt K C "Book" "set_comb" s_Book_set_comb)
  (N_do_deed:MethAt K C "Book" "do_deed" s_Book_do_deed)
  (D_shape_steps:DefAt K mg "shape_steps" s_shape_steps)
  (D_teeth_worth:DefAt K mg "teeth_worth" s_teeth_worth)
  (D_step_table:DefAt K mg "step_table" s_step_table)
  (D_shapes_behind:DefAt K mg "shapes_behind" s_shapes_behind)
  (D_fits_flush:DefAt K mg "fits_flush" s_fits_flush)
  (D_shortest_length:DefAt K mg "shortest_length" s_shortest_length)
  (D_least_lengths:DefAt K mg "least_lengths" s_least_lengths)
  (D_is_reached:DefAt K mg "is_reached" s_is_reached)
  (D_first_filling:DefAt K mg "first_filling" s_first_filling)
  (D_count_fillings:DefAt K mg "count_fillings" s_count_fillings)
  (D_first_filling_with:DefAt K mg "first_filling_with" s_first_filling_with)
  (D_count_fillings_with:DefAt K mg "count_fillings_with" s_count_fillings_with)
  (D_check_length:DefAt K mg "check_length" s_check_length)
  (D_ways_to_close:DefAt K mg "ways_to_close" s_ways_to_close)
  (D_ways_to_lay:DefAt K mg "ways_to_lay" s_ways_to_lay)
  (D_ways_from:DefAt K mg "ways_from" s_ways_from)
  (D_ways_behind:DefAt K mg "ways_behind" s_ways_behind)
  (D_lay_first:DefAt K mg "lay_first" s_lay_first)
  (D_first_open_step:DefAt K mg "first_open_step" s_first_open_step)
  (D_is_name:DefAt K mg "is_name" s_is_name)
  (D_is_small_letter:DefAt K mg "is_small_letter" s_is_small_letter)
  (D_are_teeth:DefAt K mg "are_teeth" s_are_teeth)
  (D_at:DefAt K mg "_law_at" s_at)
  (D_mixed:DefAt K mg "_law_mixed" s_mixed)
  (D_word:DefAt K mg "_law_word" s_word)
  (D_spare:DefAt K mg "_law_spare" s_spare)
  (D_menu:DefAt K mg "_law_menu" s_menu)
  (D_combs:DefAt K mg "_law_combs" s_combs)
  (D_book:DefAt K mg "_law_book" s_book)
  (D_choices:DefAt K mg "_law_choices" s_choices)
  (D_tally:DefAt K mg "_law_tally" s_tally)
  (D_whole:DefAt K mg "_law_whole" s_whole)
  (D_laying:DefAt K mg "_law_laying" s_laying)
  (D_layings:DefAt K mg "_law_layings" s_layings)
  (D_teeth:DefAt K mg "_law_teeth" s_teeth)
  (D_kind:DefAt K mg "_law_kind" s_kind)
  (D_refused:DefAt K mg "_law_refused" s_refused)
  (D_told:DefAt K mg "_law_told" s_told)
  (D_ask:DefAt K mg "_law_ask" s_ask)
  (D_right:DefAt K mg "_law_right" s_right)
  (D_law:DefAt K mg "law" s_law) :
  ∃ fd:FuncData,(∀ (s:Shared) (v:Value),BindsTo s fd ⟨[v],[]⟩ [("_law_script",v)])/\∀ base:Heap,K.In base->base.Ns mainGlobals mg->FnOk l.prog w K mg base CX0 8 fa fd ["_law_script"] (spLaw K):=by
 have BA:=book_of BCHK
 have E (j:Nat) (hj:j ∈ [0,1,2,3,4,9,11,13,14]) (h15:j < 15):=ej_of HCHK hj h15
 have E4:=E 4 (by decide) (by decide)
 refine D_law.entry hfa (fun _ _ _ _ _ _ v=>rfl) fun base => ?_
 have c_kind:=ok_kind (P:=l.prog) (w:=w) (base:=base) D_kind T (ea:=fun i => [a0,a1,a2,a3,a4,a5,a6,a7,a8,a9,a10,a11,a12,a13,a14].getD i 0) ⟨R0,R1,R2,R3,R4,R5,R6,R7,R8,R9,R10,R11,R12,R13,R14⟩
 have m_check:=ok_check (P:=l.prog) (w:=w) (base:=base) (ea:=fun i => [a0,a1,a2,a3,a4,a5,a6,a7,a8,a9,a10,a11,a12,a13,a14].getD i 0) N_check_comb T BA (E4.err R4)
 have m_do:=ok_do (P:=l.prog) (w:=w) (base:=base) (ea:=fun i => [a0,a1,a2,a3,a4,a5,a6,a7,a8,a9,a10,a11,a12,a13,a14].getD i 0) N_do_deed T BA V_MOST_DEEDS ((E 9 (by decide) (by decide)).err R9)
 have m_set:=ok_set (ea:=fun i => [a0,a1,a2,a3,a4,a5,a6,a7,a8,a9,a10,a11,a12,a13,a14].getD i 0) N_set_comb T BA m_do
 have m_put:=ok_put (ea:=fun i => [a0,a1,a2,a3,a4,a5,a6,a7,a8,a9,a10,a11,a12,a13,a14].getD i 0) N_put T BA V_MOST_COMBS ((E 0 (by decide) (by decide)).err R0) ((E 1 (by decide) (by decide)).err R1) ((E 2 (by decide) (by decide)).err R2) ((E 3 (by decide) (by decide)).err R3) (ok_name D_is_name T V_MOST_NAME (ok_small D_is_small_letter T)) (ok_teeth D_are_teeth T V_MOST_TOOTH) m_set
 have m_names:=ok_names (P:=l.prog) (w:=w) (base:=base) N_names T BA
 have m_teeth:=ok_bteeth N_teeth T BA m_check
 have c_at:=ok_at (P:=l.prog) (w:=w) (base:=base) D_at T
 have c_word:=ok_word (P:=l.prog) (w:=w) (base:=base) D_word T
 have c_combs:=ok_combs D_combs T c_at (ok_mixed D_mixed T) c_word (ok_spare D_spare T) (ok_menu D_menu T)
 have c_book:L2.Callee l.prog w K mg base "_law_book" 4 ["_law_kinds"] (sp_mkbook C):=by
  obtain ⟨fi,fdi,mk,fu⟩:=INIT.ex
  exact ok_mkbook D_book T BA ⟨fi,fdi,mk,ok_init fu T BA,INIT.m,fu.binds (fun _ _ _ _ _ _=>ln1 fun _=>rfl)⟩ m_put
 have f_steps:=ok_steps (ea:=fun i => [a0,a1,a2,a3,a4,a5,a6,a7,a8,a9,a10,a11,a12,a13,a14].getD i 0) D_shape_steps T BA V_SHAPES ((E 11 (by decide) (by decide)).err R11) (ok_worth D_teeth_worth T G_TOOTH_WORTH (tup_chk TC_TOOTH_WORTH)) m_names m_teeth
 have f_table:=ok_table D_step_table T V_SHAPES f_steps
 have c_whole:=ok_whole (P:=l.prog) (w:=w) (base:=base) D_whole T
 have c_laying:=ok_laying (P:=l.prog) (w:=w) (base:=base) D_laying T c_whole
 have f_bw:=ok_behindw (P:=l.prog) (w:=w) (base:=base) D_ways_behind T
 have f_from:=ok_from D_ways_from T f_bw
 have c_close:=ok_close D_ways_to_close T f_from
 have f_chk:=ok_chk (P:=l.prog) (w:=w) (base:=base) (ea:=fun i => [a0,a1,a2,a3,a4,a5,a6,a7,a8,a9,a10,a11,a12,a13,a14].getD i 0) D_check_length T V_MOST_FILLED ((E 13 (by decide) (by decide)).err R13)
 have f_layw:=ok_layw D_ways_to_lay T f_from
 have f_layf:=ok_layf (ea:=fun i => [a0,a1,a2,a3,a4,a5,a6,a7,a8,a9,a10,a11,a12,a13,a14].getD i 0) D_lay_first T ((E 14 (by decide) (by decide)).err R14) (ok_open D_first_open_step T f_bw)
 have c_told:=ok_told D_told T c_whole
 have c_refused:=ok_refused (P:=l.prog) (w:=w) (base:=base) D_refused T
 have c_ask:=ok_ask D_ask T RCE c_kind (ok_count (ea:=fun i => [a0,a1,a2,a3,a4,a5,a6,a7,a8,a9,a10,a11,a12,a13,a14].getD i 0) D_count_fillings T f_chk f_table c_close) (ok_ffill (ea:=fun i => [a0,a1,a2,a3,a4,a5,a6,a7,a8,a9,a10,a11,a12,a13,a14].getD i 0) D_first_filling T f_chk f_table c_close f_layf) (ok_countw D_count_fillings_with T BA m_check f_chk f_table c_close f_layw) (ok_ffillw D_first_filling_with T BA m_check f_chk f_table c_close f_layw f_layf)
 have f_behind:=ok_behind (P:=l.prog) (w:=w) (base:=base) D_shapes_behind T
 have f_fits:=ok_fitsf (ea:=fun i => [a0,a1,a2,a3,a4,a5,a6,a7,a8,a9,a10,a11,a12,a13,a14].getD i 0) D_fits_flush T V_MOST_LENGTH ((E 13 (by decide) (by decide)).err R13) f_table (ok_short D_shortest_length T V_SHAPES f_behind) (ok_least D_least_lengths T f_behind) (ok_reached D_is_reached T)
 exact ok_law D_law T c_at c_combs (ok_choices D_choices T) (ok_tally D_tally T (ok_lteeth D_teeth T)) c_book f_fits (ok_right D_right T (E 14 (by decide) (by decide)) c_ask c_told c_refused (ok_layings D_layings T c_laying))
end K37
open PySem PySem.W PyProof.Rows
namespace PySem.W.Fast
def tw14771008616389800245:=True
def tw6525948888482522798:=True
def tw4622220254198576333:=True
def tw15851035211533914839:=True
def tw4689610551968622644:=True
def tw14965726323839305442:=True
def tw11064334579090424949:=True
def tw4664165361258024853:=True
def tw4744205128891538462:=True
def tw311320004374894613:=True
def tw9791986184082630050:=True
def tw5864507165956028768:=True
def tw6264939383003018143:=True
def tw7044030571326934184:=True
def tw9782944083878828125:=True
def tw5011946677502891871:=True
def tw14083718203799793735:=True
def tw12502477895889069015:=True
def tw16145041194802670461:=True
def tw12576755905909406409:=True
def tw10173147532592642491:=True
def tw17208257164997755933:=True
def tw9449573242673589953:=True
def tw12276068659498325639:=True
def tw12647868658292034018:=True
def tw12891462242772588181:=True
def tw1949355411168694655:=True
def tw13258667457779849036:=True
def tw6385365188635595029:=True
def tw2463038217855566228:=True
def tw2679170531059495759:=True
def tw2344015750461155689:=True
def tw773379289867347815:=True
def tw10509337449247636120:=True
def tw9566653872089016778:=True
def tw4444785390378006306:=True
def tw14965995761413711052:=True
def tw7349824895123761876:=True
def tw7562576605024928167:=True
def tw10459932749062633283:=True
def tw15927012652800330183:=True
def tw4728276139519016726:=True
def tw1519108573968602429:=True
def tw12968001647744819916:=True
def tw1703846959186852149:=True
def tw14320505655372679431:=True
def tw8431069929513805342:=True
def tw2252913523531278328:=True
def tw39563999528104033:=True
def tw17801151292265381254:=True
def tw238584032535099865:=True
def tw8854821710412094245:=True
def tw9999807928263057468:=True
def tw11087403827668897364:=True
def tw4218813165506369804:=True
def tw5070342285022025292:=True
def tw9621773766760118139:=True
def tw18303974852389216131:=True
def tw3224735565727324810:=True
def tw15415461670359900649:=True
def tw3229574924101689255:=True
def tw3311289126706987278:=True
def tw4611999573537368105:=True
def tw9084279882715707336:=True
def tw2537632773786663875:=True
def tw10481808773220223068:=True
def tw1875632139655738720:=True
def tw6771434500571244177:=True
def tw12620685928136608082:=True
def tw5804427712982799187:=True
def tw10140762508892892664:=True
def tw16878153908492125103:=True
def tw2402832773561306125:=True
def tw16068924727079217269:=True
def tw17761107007389845677:=True
def tw6823086882894710436:=True
def tw8146754525650568812:=True
def tw4708204692469637404:=True
def tw7668200706817766595:=True
def tw14445157613997253030:=True
def tw16506505364613802500:=True
def tw2691690817263158600:=True
def tw5677802359256957022:=True
def tw16612643031256876426:=True
def tw16267506658154625525:=True
def tw12571762179795116887:=True
def tw1643394716426895646:=True
def tw4432849816958352222:=True
def tw3126440168739642362:=True
def tw14488224632932883062:=True
def tw14861433638409765784:=True
def tw12175637361800078718:=True
def tw11839635550705904870:=True
def tw14560551158363823711:=True
def tw3426968182551921236:=True
def tw18394604313960176558:=True
def tw16439340081543328822:=True
def tw1789367497440693515:=True
def tw3095398323325186182:=True
def tw9617404238239211636:=True
def tw12048598809570757603:=True
def tw9325888747244885294:=True
def tw3114459291874334279:=True
def tw4494180090619525784:=True
def tw3521830157185925524:=True
def tw7911707884379246700:=True
def tw2273829806804755448:=True
def tw8455127913873042200:=True
def tw6435198401059623649:=True
def tw9212041747187329587:=True
def tw16189786307820156765:=True
def tw981638527709082987:=True
def tw1796309377432195160:=True
def tw15269223423171590865:=True
def tw12968998023971857893:=True
def tw1951200399850194758:=True
def tw10147278159597596714:=True
def tw13245374729764418155:=True
def tw12424084783203593011:=True
def tw6954774448962316154:=True
def tw15655133043161080289:=True
def tw11102813606639534802:=True
def tw14846721468630019173:=True
def tw1886532385335451446:=True
def tw899014308844038669:=True
def tw18048984940800685700:=True
def tw18352617164035949203:=True
def tw1427292254889973640:=True
def tw6902280060230886067:=True
def tw2169229145106411178:=True
def tw4087918388684075824:=True
def tw12940251517592378225:=True
def tw8174431950551754334:=True
def tw15881754661104412793:=True
def tw12440139801221722506:=True
def tw15654071751500462797:=True
def tw8737437580505532940:=True
def tw3077078214721580351:=True
def tw14715554141752788305:=True
def tw13838531796060409915:=True
def tw16118663411491902661:=True
def tw4375012300484533352:=True
def tw12297660481305055393:=True
def tw15441963978170901414:=True
def tw16176120217879470053:=True
def tw3376662078927762826:=True
def tw383584488755790464:=True
def tw5010608815179733069:=True
def tw1262610518386523856:=True
def tw17811030503005287030:=True
def tw3716993943999517453:=True
def tw13716514272992446639:=True
def tw7091327584815309287:=True
def tw1618793544005672358:=True
def tw4496540607123045588:=True
def tw18217826809773392360:=True
def tw113843459450157057:=True
def tw1243479392843364387:=True
def tw7382132277163342867:=True
def tw17757417394014270633:=True
def tw13576332575356187704:=True
def tw1488549793788286874:=True
def tw4353228457346102031:=True
def tw313999045937827744:=True
def tw7282338569210101542:=True
def tw761134611121756988:=True
def tw315939799086606043:=True
def tw14750534789216893261:=True
def tw18258684408454862886:=True
def tw11120924417244492473:=True
def tw2440043890854274388:=True
def tw10186043063135899222:=True
def tw4354462484902280155:=True
def tw12527504442016328293:=True
def tw16639371642791362108:=True
def tw12273829981698598497:=True
def tw88920357611645280:=True
def tw7998521423886234872:=True
def tw4371621960825182694:=True
def tw17601562380888012537:=True
def tw1720728115655689657:=True
def tw4199897333917345067:=True
def tw18028603443772537473:=True
def tw945512226985040400:=True
def tw2544099753336421222:=True
def tw6183509154757954404:=True
def tw6396082577463990784:=True
def tw13702136299424500609:=True
def tw10552742437778359773:=True
def tw2497278744498809964:=True
def tw10700644808592930403:=True
def tw9623934980358654873:=True
def tw3178642246200170686:=True
def tw10564770616186873759:=True
def tw5416238091457773798:=True
def tw11292798581123280637:=True
def tw10456387780565281865:=True
def tw8117775826164175448:=True
def tw17722011113023908714:=True
def tw13446760783084311273:=True
def tw10479816375721553259:=True
def tw10286201481281496142:=True
def tw4739749468803825953:=True
def tw5756784587560266353:=True
def tw6813551007877450909:=True
def tw9170318728453401418:=True
def tw17172391086538913411:=True
def tw11542080937923850725:=True
def tw9331889104348602928:=True
def tw14305630202596976569:=True
def tw13757886729108023256:=True
def tw14226295067988065824:=True
def tw3460757876383849750:=True
def tw3724969956124815424:=True
def tw10572606901390303477:=True
def tw6669582460331741734:=True
def tw13295073766941170256:=True
def tw1829168546880803247:=True
def tw6459525729139575691:=True
def tw13156373135678848792:=True
def tw7267777259942114842:=True
def tw14917641725880521341:=True
def tw2808493892583861411:=True
def tw13714489098911182352:=True
def tw5361873749077283613:=True
def tw2639605610577645464:=True
def tw12035051882027152651:=True
def tw14786857481842652703:=True
def tw17159116823854614703:=True
def tw4290843248380766320:=True
def tw4637447445263656978:=True
def tw14324773820573722405:=True
def tw1935148874583827698:=True
def tw7719755335833102282:=True
def tw11470210644687494301:=True
def tw15293696798452004549:=True
def tw15040535975562880501:=True
def tw3748509189256085289:=True
def tw13161224905121880341:=True
def tw17716533303055582872:=True
def tw17622667813552198536:=True
def tw17656023162482460437:=True
def tw16561484992400699088:=True
def tw10451042066432792847:=True
def tw5363353528368801227:=True
def tw10758360637363199968:=True
def tw16221512984536150500:=True
def tw4568694057656049275:=True
def tw14510998054102842912:=True
def tw11148350183465907013:=True
def tw11851808679143007417:=True
def tw16887451695754785366:=True
def tw18376165898349273403:=True
def tw9202316757182697508:=True
def tw834555285695846215:=True
def tw374157271680606664:=True
def tw1842380010654306766:=True
def tw995457099311134612:=True
def tw10950772572354306282:=True
def tw12946427343946750623:=True
def tw4533362545148676918:=True
def tw5460197301903708835:=True
def tw13085931402479852222:=True
def tw13077454570538335058:=True
def tw17210046932632013382:=True
def tw2584335436699515388:=True
def tw9308246582085347997:=True
def tw8525257176160952798:=True
def tw14833951014866052396:=True
def tw13576489009402114015:=True
def tw16221204142097172835:=True
def tw6998028774361463487:=True
def tw15807805308941865180:=True
def tw4596771727912771084:=True
def tw9594146953597966793:=True
def tw10258667659637793335:=True
def tw7953910826489262924:=True
def tw17459143965992503065:=True
def tw11414696240991661526:=True
def tw4938178912705787490:=True
def tw5353606311108643339:=True
def tw11501020596485900683:=True
def tw2574123749996277966:=True
def tw2366886686994550381:=True
def tw16092097479082555186:=True
def tw6234507604085591382:=True
def tw2904815742304755285:=True
def tw2945131449864964798:=True
def tw8098866802795532421:=True
def tw15368291261818648172:=True
def tw3505312108873789760:=True
def tw8498221967121053548:=True
def tw13062393697046531266:=True
def tw14989513410873502138:=True
def tw13079405977409683115:=True
def tw1243699125671721443:=True
def tw12983440240295739499:=True
def tw6110974781566815982:=True
def tw7595004416105154129:=True
def tw12127903238313388016:=True
def tw18083339663973960557:=True
def tw17162835993326539284:=True
def tw4104527797859192666:=True
def tw16522356834311397398:=True
def tw3876574413071586175:=True
def tw11125024169030243127:=True
def tw5219057132291930638:=True
def tw15765176487042534088:=True
def tw6940927305306330678:=True
def tw7520327650277014570:=True
def tw7961903100023635655:=True
def tw6715712374585480560:=True
def tw10234468286021868711:=True
def tw7215448079786693889:=True
def tw2918301806322909463:=True
def tw11659302003227879244:=True
def tw1881731316085162322:=True
def tw14440511491248073770:=True
def tw10883041759056346173:=True
def tw11859577132872134813:=True
def tw856056358202093739:=True
def tw14708583616509743953:=True
def tw8792734331445611346:=True
def tw4637252820546609667:=True
def tw8774580806913932274:=True
def tw9225824518521479243:=True
def tw10326959217728833084:=True
def tw9911740434822791608:=True
def tw13706920948752773272:=True
def tw17910908602705502623:=True
def tw18081845815034231369:=True
def tw14015514861925745066:=True
def tw399922509246746938:=True
def tw2724025183139536961:=True
def tw3172382754176337641:=True
def tw8634133598884038489:=True
def tw2332930861834023391:=True
def tw16472551015734430776:=True
def tw13138894195616814727:=True
def tw14527193805071046643:=True
def tw2426125319993605705:=True
def tw17704610999146176595:=True
def tw2951350961889001867:=True
def tw11823010463260308677:=True
def tw2661806002278713304:=True
def tw6477859633241385286:=True
def tw16359012857134994220:=True
def tw2367249108402429240:=True
def tw8863245130391825455:=True
def tw12516140150739952395:=True
def tw6950795527283167320:=True
def tw13667484158582120627:=True
def tw4210988959471387159:=True
def tw15506577167206360935:=True
def tw18188417404179901880:=True
def tw11355957642778556771:=True
def tw8725529692738938314:=True
def tw16146390244937196327:=True
def tw11223546704747327337:=True
def tw1536127882570713665:=True
def tw16226214448032283117:=True
def tw14272214207246815159:=True
def tw6824423367910884953:=True
def tw11978337071957903530:=True
def tw6812653689824400537:=True
def tw12623759048938866714:=True
def tw5093203405620274392:=True
def tw7291333723817910466:=True
def tw124432272134026182:=True
def tw5515603597822192633:=True
def tw11186118890405091837:=True
def tw8824409880607510988:=True
def tw3563158370271009382:=True
def tw4001756623835430289:=True
def tw15567640549253640902:=True
def tw10028214667151823546:=True
def tw6384967637832415884:=True
def tw17195539312774135585:=True
def tw16206347401650870445:=True
def tw14088074752697478427:=True
def tw10867638217575240916:=True
def tw7110766294451067198:=True
def tw8695208788478907513:=True
def tw1174584211236880024:=True
def tw11772713868834559458:=True
def tw3501762418892673246:=True
def tw15556886387621522399:=True
def tw7995843548258793655:=True
def tw3941059748657547505:=True
def tw8317789070483189639:=True
def tw10645213232934628978:=True
def tw10050529203788622941:=True
def tw8400176350246022220:=True
def tw12391588693213330115:=True
def tw12128998562087335739:=True
def tw13907408832188369237:=True
def tw10551199453787894857:=True
def tw17166732282821488720:=True
def tw15765530132762205752:=True
def tw6760053851129581880:=True
def tw16864008000515877586:=True
def tw14104955192883639166:=True
def tw18061963011156269886:=True
def tw9902884012273232536:=True
def tw6146503237886961556:=True
def tw10720400609777055342:=True
def tw9875222925451729421:=True
def tw13318823942299586539:=True
def tw16886295714087160009:=True
def tw16574699744870599489:=True
def tw3721683303732043169:=True
def tw6939767735192586278:=True
def tw13728803040333688561:=True
def tw3280887147621253094:=True
def tw6601530455412569730:=True
def tw6687776911489620529:=True
def tw1620679705186159519:=True
def tw5446666346543785440:=True
def tw221663061253386195:=True
def tw543122236495178557:=True
def tw12474020824776142668:=True
def tw15674880118564900538:=True
def tw9973362962405164545:=True
def tw11112706409220031051:=True
def tw4727607767756820812:=True
def tw16513415446688541594:=True
def tw17385332855595705140:=True
def tw3459211656665069197:=True
def tw12974266998058062669:=True
def tw1858822530722682088:=True
def tw10424535033214892745:=True
def tw16452789208030869834:=True
def tw3220456004657714875:=True
def tw8117912570968942694:=True
def tw9143820417305783673:=True
def tw3147889779731970193:=True
def tw6955705411529033164:=True
def tw16678894973097051434:=True
def tw3263504320287358737:=True
def tw2150907618131343953:=True
def tw12079245796098272934:=True
def tw7448638845158796995:=True
def tw5425015770181372466:=True
def tw5307334143240225466:=True
def tw11255562354026814352:=True
def tw13289242885254677896:=True
def tw8903841890524015161:=True
def tw18349989923536223832:=True
def tw6040357917223563795:=True
def tw2580761401747956945:=True
def tw7335639918900104892:=True
def tw17415618653650964862:=True
def tw18402359972629710849:=True
def tw2626605038960213253:=True
def tw12755656398357197619:=True
def tw8188500577402054838:=True
def tw15819159067146096936:=True
def tw3569880986015310635:=True
def tw10255188847594768416:=True
def tw8250874946877566942:=True
def tw18128762878553039881:=True
def tw2197126496532020553:=True
def tw2701184005177695472:=True
def tw5902332544628894113:=True
def tw8010181605260147367:=True
def tw10272959840380333868:=True
def tw7068650542675516746:=True
def tw15869928078648028871:=True
def tw1839035414272179625:=True
def tw14178566978576440756:=True
def tw6744146085312918818:=True
def tw5915052160610061694:=True
def tw5136150082364249701:=True
def tw7501739899896170549:=True
def tw17031720223325125256:=True
def tw13367252654960628764:=True
def tw6651948730352678836:=True
def tw6972667952108327350:=True
def tw2093681265349683659:=True
def tw7923065740783207590:=True
def tw15655184371357100277:=True
def tw9441534255337760772:=True
def tw17706075221794832007:=True
def tw7393175970624942849:=True
def tw6448287875868612044:=True
def tw9728411278282433582:=True
def tw1810802750088731750:=True
def tw16186884815309732836:=True
def tw1260329033051614129:=True
def tw15883281023007902093:=True
def tw3671048119249566783:=True
def tw2059374097961723503:=True
def tw13142800464401520394:=True
def tw71905624954707904:=True
def tw15841237741154410614:=True
def tw4321214536237351660:=True
def tw8725488167242950189:=True
def tw11667896813949911552:=True
def tw7037803101590833528:=True
def tw6854321323964234279:=True
def tw16543104552624166091:=True
def tw10570618918768179634:=True
def tw13721510007227561647:=True
def tw4762493194438174784:=True
def tw8267285034929922590:=True
def tw17249024991160505720:=True
def tw17595039069402031808:=True
def tw12774941632208316973:=True
def tw17102087092321108633:=True
def tw10643681679251429221:=True
def tw11911132588996048824:=True
def tw7665578604755720000:=True
def tw16504156197306858800:=True
def tw14047375018005584680:=True
def tw8374746215690072095:=True
def tw9442060624289559091:=True
def tw5551311870213109112:=True
def tw12854196484416077893:=True
def tw8786744564664000122:=True
def tw4016054676476603981:=True
def tw12684048504195926037:=True
def tw3840621078071506991:=True
def tw4872730500227780367:=True
def tw12425809139259482127:=True
def tw3253874976818503526:=True
def tw12091809442059290936:=True
def tw5650165382378858556:=True
def tw2724729880883855012:=True
def tw17630326704308645304:=True
def tw9488718457232061764:=True
def tw5564832689146650122:=True
def tw5861322023571865517:=True
def tw8340848643236413683:=True
def tw12730802605694803571:=True
def tw1913202809222017471:=True
def tw11923271572539515825:=True
def tw1191144322091062225:=True
def tw9018555325279817135:=True
def tw3059468705790754806:=True
def tw1003029950068651560:=True
def tw17493775979292480687:=True
def tw14220318754359666651:=True
def tw5091637747829689799:=True
def tw6383634765916822059:=True
def tw4138268215340773708:=True
def tw17469111901060585837:=True
def tw13839858055883532847:=True
def tw1193258343133697064:=True
def tw12539563689050430489:=True
def tw10231855620829704708:=True
def tw6826352339933231870:=True
def tw18064957874034313045:=True
def tw15530439752211540776:=True
def tw6479599661736616491:=True
def tw12467458726279836822:=True
def tw9980426109133676355:=True
def tw15365878101016880942:=True
def tw18131683637301544354:=True
def tw14860888214000782077:=True
def tw10106728064629301629:=True
def tw4394866763576079773:=True
def tw4361205418669180437:=True
def tw9868166599135190325:=True
def tw13471192173471369864:=True
def tw6514545344869696201:=True
def tw13084063465595154274:=True
def tw5665916459876490424:=True
def tw15571255840414035632:=True
def tw16314162439091956507:=True
def tw15069583063616889796:=True
def tw18036969558457547310:=True
def tw1994878133110007975:=True
def tw16788516578096312349:=True
def tw4635765557523346183:=True
def tw11346093464951778520:=True
def tw15373439975061609966:=True
def tw765101597367674299:=True
def tw8267333426058418281:=True
def tw17234701045670519056:=True
def tw3716187503162983482:=True
def tw12575493687750301101:=True
def tw3032238199681839537:=True
def tw16606898403967336493:=True
def tw3233938424366579453:=True
def tw13664094377185779487:=True
def tw10507386057136825587:=True
def tw16970935868012265785:=True
def tw10056977055065836191:=True
def tw8379693247711549501:=True
def tw13445469592593386096:=True
def tw2554210323802804269:=True
def tw18420674819468147929:=True
def tw6171945048474065858:=True
def tw1083275775017561371:=True
def tw15539916925277868936:=True
def tw11435177858997905101:=True
def tw6222874670513020864:=True
def tw15967997917821183793:=True
def tw6790048954142200577:=True
def tw13721114406100186131:=True
def tw931111639520767163:=True
def tw11583810995442938388:=True
def tw235326562093266765:=True
def tw11882585034000260353:=True
def tw832246722900565198:=True
def tw15147075196355574326:=True
def tw10517712326058368236:=True
def tw6644736840784310528:=True
def tw13115371977435643589:=True
def tw17679042981071545552:=True
def tw5793207009842833083:=True
def tw9601193141039722263:=True
def tw17598218493468346079:=True
def tw7310351267813661854:=True
def tw12929216526764934929:=True
def tw404541984792869735:=True
def tw11470234254956488948:=True
def tw14758375057913516686:=True
def tw5313333385400317343:=True
def tw7248432729853669430:=True
def tw820622068810131172:=True
def tw4524047652646169926:=True
def tw17898582204416643312:=True
def tw1814879008028410485:=True
def tw12153184191540536332:=True
def tw4662061291942336032:=True
def tw6269861463204340650:=True
def tw7553933539427880609:=True
def tw11760989140075398806:=True
def tw2887965332084407535:=True
def tw15003355006646897462:=True
def tw16649205299470873986:=True
def tw5598039769101399948:=True
def tw6464774924981447699:=True
def tw4487305784189280359:=True
def tw11180763332055557258:=True
def tw8829151743878452284:=True
def tw9161408701060488944:=True
def tw1200655736686673072:=True
def tw14243662553677821403:=True
def tw11859110642572629057:=True
def tw8074432251050909317:=True
def tw6355295720098241619:=True
def tw10542151073441535181:=True
def tw17245230455652984275:=True
def tw12316487851231470871:=True
def tw14778494869317284256:=True
def tw1150832558617601193:=True
def tw13519038019944981884:=True
def tw14023671490717170641:=True
def tw15704563672099970599:=True
def tw12055262837502713930:=True
def tw10165236169185056782:=True
def tw16812518935882019195:=True
def tw11985650047497585225:=True
def tw202287877791984644:=True
def tw9740619282985466882:=True
def tw16293659542753019328:=True
def tw2144803281559272532:=True
def tw8450641584698929935:=True
def tw14473378275208443461:=True
def tw16132700816654490483:=True
def tw15870442956851828111:=True
def tw11995931249204518924:=True
def tw6691602666169034734:=True
def tw14175249404949490579:=True
def tw10493785448534327330:=True
def tw986321109197436253:=True
def tw10409270506052113610:=True
def tw7021171855725806582:=True
def tw14378690919466581411:=True
def tw4495329045902304735:=True
def tw4585560197077783:=True
def tw9681159580140518853:=True
def tw18266498552181491076:=True
def tw57032132177103514:=True
def tw6853742223409039848:=True
def tw10097550212825352298:=True
def tw13761699452022049755:=True
def tw16705877906283282757:=True
def tw7105452740361365997:=True
def tw12724896899721856225:=True
def tw4038181596105806055:=True
def tw12563731637225220943:=True
def tw15353075003324806103:=True
def tw17596991242367537486:=True
def tw10996088096413452034:=True
def tw9491278866766349303:=True
def tw2838675246652962846:=True
def tw3689606851392311288:=True
def tw15208286072497316670:=True
def tw2516613106990592988:=True
def tw16783568068738164900:=True
def tw7257315551026645296:=True
def tw7126003716025473147:=True
def tw3203716516356410779:=True
def tw6479533988940362836:=True
def tw5197243170836271204:=True
def tw11454379164424530490:=True
def tw17347911103057316786:=True
def tw11655418665896407751:=True
def tw2288532287880917089:=True
def tw12858564289075328934:=True
def tw16656347613062143889:=True
def tw11805476148509536002:=True
def tw7348169809918035670:=True
def tw18126908718390687147:=True
def tw5254950509875933231:=True
def tw13049989376335527731:=True
def tw18398841396424070989:=True
def tw14264314789261868506:=True
def tw16371032272283862493:=True
def tw4203283553419760496:=True
def tw2654236391102611548:=True
def tw7151743111815366079:=True
def tw11473898933158413863:=True
def tw15139683558629530093:=True
def tw5950995819799063637:=True
def tw222891259450341216:=True
def tw1382030370457542197:=True
def tw10637612852248339197:=True
def tw11595286950398519012:=True
def tw811798110282487739:=True
def tw8129059287697867311:=True
def tw13372585202316456705:=True
def tw886818356151057837:=True
def tw2956264228056828982:=True
def tw11512996226589417676:=True
def tw899702482510532091:=True
def tw576398302578968216:=True
def tw11894949025422713413:=True
def tw7865768199900645738:=True
def tw13975744869812223910:=True
def tw2845208160490299603:=True
def tw16565831731947761982:=True
def tw1482088579433387542:=True
def tw6782332905471351796:=True
def tw15793147170282941805:=True
def tw678511240894650687:=True
def tw12215883411813554190:=True
def tw7797218494810985106:=True
def tw7688485963363525268:=True
def tw10553473893335406329:=True
def tw11836592658745367960:=True
def tw10267742775248920989:=True
def tw1097799182984894621:=True
def tw9211758097186000060:=True
def tw11147797865309588679:=True
def tw10520880083948863395:=True
def tw1049146853920662951:=True
def tw11599010254966747555:=True
def tw1084428483135100175:=True
def tw14428196121332892079:=True
def tw15108265632214504714:=True
def tw3089108960226939410:=True
def tw9041406652702430023:=True
def tw11991730338172084870:=True
def tw13641126281607168652:=True
def tw15514157463221843194:=True
def tw609669975947055486:=True
def tw3747565467139189954:=True
def tw7875606857047654467:=True
def tw6982565773344361364:=True
def tw11399937831895030167:=True
def tw17353842201133118036:=True
def tw13064713286666425878:=True
def tw1637357750046431333:=True
def tw15202178815966492337:=True
def tw11485626259400004210:=True
def tw16678119806968033471:=True
def tw9781330336332429348:=True
def tw223775811754049044:=True
def tw16632703290908969184:=True
def tw17710486112901641495:=True
def tw7235015536693715184:=True
def tw15910686784605396806:=True
def tw15215324606279345292:=True
def tw6472956239941217886:=True
def tw10830761852150225691:=True
def tw17087411798985746445:=True
def tw10760192996227224027:=True
def tw11592422786372937357:=True
def tw8669857985718396541:=True
def tw14406924922757653826:=True
def tw4487767873409180086:=True
def tw15100475831897416935:=True
def tw18246943268099609575:=True
def tw13724804402656223817:=True
def tw2012576613817774380:=True
def tw4528705201106282157:=True
def tw1611718432419643192:=True
def tw15693311962658283282:=True
def tw17971719644611180824:=True
def tw8547820737235907289:=True
def tw162817414207588503:=True
def tw5834414860892632691:=True
def tw10158239972796974426:=True
def tw17225193420656068486:=True
def tw18371809971309554178:=True
def tw13903051202433320853:=True
def tw16631376675601840249:=True
def tw12145173552553807227:=True
def tw6665954713334121656:=True
def tw12152844831615736880:=True
def tw9929885572855275255:=True
def tw15532068364535953218:=True
def tw11078273739579955719:=True
def tw3373447150235679334:=True
def tw8269810065243434137:=True
def tw8684295490161023027:=True
def tw12258177678829933018:=True
def tw5852020491643826722:=True
def tw8694438538936233523:=True
def tw5605359149679265131:=True
def tw15104882325568411857:=True
def tw15494235759440291419:=True
def tw5968460177430899768:=True
def tw15770844523722585143:=True
def tw9686364488218579085:=True
def tw17952351989856951781:=True
def tw10760424416345543318:=True
def tw4775192246722602846:=True
def tw12282390796210692168:=True
def tw15855326892262144792:=True
def tw6634573879058154184:=True
def tw16388360264341106079:=True
def tw16741936442548989536:=True
def tw10821616689797664940:=True
def tw3067437960571010565:=True
def tw7087930767024612038:=True
def tw9986476961895173066:=True
def tw12042884126434730678:=True
def tw5505185239884875310:=True
def tw11941540671851973170:=True
def tw6489735098134861485:=True
def tw11682579738348121282:=True
def tw9366412560965147897:=True
def tw15907845638152995136:=True
def tw8793036228482379710:=True
def tw17987632686743805654:=True
def tw7339975904474605303:=True
def tw13886306747300553198:=True
def tw15752008309387755148:=True
def tw14178001864769348358:=True
def tw14291669847836490422:=True
def tw16309757989244480372:=True
def tw4837764300279519623:=True
def tw9714070404249048754:=True
def tw1327763159936534930:=True
def tw14280170442240522269:=True
def tw5952402431552953949:=True
def tw6151387496150105982:=True
def tw16508254213980965228:=True
def tw13636669286622889870:=True
def tw2916174944718884726:=True
def tw10306962365817168574:=True
def tw2113809153753858239:=True
def tw15420822541368327300:=True
def tw5425299182006302941:=True
def tw14142650621064922812:=True
def tw2372521467505224009:=True
def tw5479385238946360931:=True
def tw9503564009405383957:=True
end PySem.W.Fast
set_option maxRecDepth 100000 in
set_option maxHeartbeats 0 in
theorem PySem.Challenge.cw_combstrip_k37_whole_small_planks_holds : PySem.Challenge.rw_combstrip_k37_whole_small_planks.Holds := by
 w_on; o_law; k_head; (case hw=>w_witness2)
 k_fill
 refine K37.walk (l:=PySem.Challenge.rw_combstrip_k37_whole_small_planks) rfl rfl (fun w h Y=>PySem.W.kIn_of Y) ?F
 case F =>
  intro w mg fa h KX G hmg
  refine' K37.all KX G hmg (L2.bn_mk KX G ?n0 ?n1 ?n2 ?n3 ?n4 ?n5 ?n6 ?n7 ?n8 ?n9 ?n10 ?n11 ?n12 ?n13 ?n14 ?n15 ?n16 ?n17 ?n18 ?n19 ?n20) ?v0 ?v1 ?v2 ?v3 ?v4 ?v5 ?v6 ?zgt0 ?ztc0 ?r0 ?r1 ?r2 ?r3 ?r4 ?r5 ?r6 ?r7 ?r8 ?r9 ?r10 ?r11 ?r12 ?r13 ?r14 ?zrce ?zhc ?zini ?zbc ?m0 ?m1 ?m2 ?m3 ?m4 ?m5 ?d0 ?d1 ?d2 ?d3 ?d4 ?d5 ?d6 ?d7 ?d8 ?d9 ?d10 ?d11 ?d12 ?d13 ?d14 ?d15 ?d16 ?d17 ?d18 ?d19 ?d20 ?d21 ?d22 ?d23 ?d24 ?d25 ?d26 ?d27 ?d28 ?d29 ?d30 ?d31 ?d32 ?d33 ?d34 ?d35 ?d36 ?d37 ?d38 ?d39 ?d40
  (case n0=>k_is)
  (case n1=>k_is)
  (case n2=>k_is)
  (case n3=>k_is)
  (case n4=>k_is)
  (case n5=>k_is)
  (case n6=>k_is)
  (case n7=>k_is)
  (case n8=>k_is)
  (case n9=>k_is)
  (case n10=>k_is)
  (case n11=>k_is)
  (case n12=>k_is)
  (case n13=>k_is)
  (case n14=>k_is)
  (case n15=>k_is)
  (case n16=>k_is)
  (case n17=>k_is)
  (case n18=>k_is)
  (case n19=>k_is)
  (case n20=>k_is)
  (case v0=>refine' L2.int_mk KX G ?a; (case a=>k_is))
  (case v1=>refine' L2.int_mk KX G ?a; (case a=>k_is))
  (case v2=>refine' L2.int_mk KX G ?a; (case a=>k_is))
  (case v3=>refine' L2.int_mk KX G ?a; (case a=>k_is))
  (case v4=>refine' L2.int_mk KX G ?a; (case a=>k_is))
  (case v5=>refine' L2.int_mk KX G ?a; (case a=>k_is))
  (case v6=>refine' L2.int_mk KX G ?a; (case a=>k_is))
  (case zgt0=>refine' L2.ref_mk KX G ?a; (case a=>k_is))
  (case ztc0=>kernel_rfl)
  (case r0=>refine' L2.ref_mk KX G ?a; (case a=>k_is))
  (case r1=>refine' L2.ref_mk KX G ?a; (case a=>k_is))
  (case r2=>refine' L2.ref_mk KX G ?a; (case a=>k_is))
  (case r3=>refine' L2.ref_mk KX G ?a; (case a=>k_is))
  (case r4=>refine' L2.ref_mk KX G ?a; (case a=>k_is))
  (case r5=>refine' L2.ref_mk KX G ?a; (case a=>k_is))
  (case r6=>refine' L2.ref_mk KX G ?a; (case a=>k_is))
  (case r7=>refine' L2.ref_mk KX G ?a; (case a=>k_is))
  (case r8=>refine' L2.ref_mk KX G ?a; (case a=>k_is))
  (case r9=>refine' L2.ref_mk KX G ?a; (case a=>k_is))
  (case r10=>refine' L2.ref_mk KX G ?a; (case a=>k_is))
  (case r11=>refine' L2.ref_mk KX G ?a; (case a=>k_is))
  (case r12=>refine' L2.ref_mk KX G ?a; (case a=>k_is))
  (case r13=>refine' L2.ref_mk KX G ?a; (case a=>k_is))
  (case r14=>refine' L2.ref_mk KX G ?a; (case a=>k_is))
  (case zrce=>refine' L2.ref_mk KX G ?a; (case a=>k_is))
  (case zhc=>kernel_rfl)
  (case zini=>refine' L2.init_mk (L2.ref_mk KX G ?z) ?a ?l ?c ?k ?i ?k2 ?mk; (case z=>k_is); (case a=>k_is); (case l=>k_is); (case c=>k_is); (case k=>k_is); (case i=>k_is); (case k2=>k_is); (case mk=>k_is))
  (case zbc=>kernel_rfl)
  (case m0=>refine' L2.meth_mk ?a ?l ?c ?k ?i; (case a=>k_is); (case l=>k_is); (case c=>k_is); (case k=>k_is); (case i=>k_is))
  (case m1=>refine' L2.meth_mk ?a ?l ?c ?k ?i; (case a=>k_is); (case l=>k_is); (case c=>k_is); (case k=>k_is); (case i=>k_is))
  (case m2=>refine' L2.meth_mk ?a ?l ?c ?k ?i; (case a=>k_is); (case l=>k_is); (case c=>k_is); (case k=>k_is); (case i=>k_is))
  (case m3=>refine' L2.meth_mk ?a ?l ?c ?k ?i; (case a=>k_is); (case l=>k_is); (case c=>k_is); (case k=>k_is); (case i=>k_is))
  (case m4=>refine' L2.meth_mk ?a ?l ?c ?k ?i; (case a=>k_is); (case l=>k_is); (case c=>k_is); (case k=>k_is); (case i=>k_is))
  (case m5=>refine' L2.meth_mk ?a ?l ?c ?k ?i; (case a=>k_is); (case l=>k_is); (case c=>k_is); (case k=>k_is); (case i=>k_is))
  (case d0=>refine' L2.def_mk KX G ?a ?l ?c ?k; (case a=>k_is); (case l=>k_is); (case c=>k_is); (case k=>k_is))
  (case d1=>refine' L2.def_mk KX G ?a ?l ?c ?k; (case a=>k_is); (case l=>k_is); (case c=>k_is); (case k=>k_is))
  (case d2=>refine' L2.def_mk KX G ?a ?l ?c ?k; (case a=>k_is); (case l=>k_is); (case c=>k_is); (case k=>k_is))
  (case d3=>refine' L2.def_mk KX G ?a ?l ?c ?k; (case a=>k_is); (case l=>k_is); (case c=>k_is); (case k=>k_is))
  (case d4=>refine' L2.def_mk KX G ?a ?l ?c ?k; (case a=>k_is); (case l=>k_is); (case c=>k_is); (case k=>k_is))
  (case d5=>refine' L2.def_mk KX G ?a ?l ?c ?k; (case a=>k_is); (case l=>k_is); (case c=>k_is); (case k=>k_is))
  (case d6=>refine' L2.def_mk KX G ?a ?l ?c ?k; (case a=>k_is); (case l=>k_is); (case c=>k_is); (case k=>k_is))
  (case d7=>refine' L2.def_mk KX G ?a ?l ?c ?k; (case a=>k_is); (case l=>k_is); (case c=>k_is); (case k=>k_is))
  (case d8=>refine' L2.def_mk KX G ?a ?l ?c ?k; (case a=>k_is); (case l=>k_is); (case c=>k_is); (case k=>k_is))
  (case d9=>refine' L2.def_mk KX G ?a ?l ?c ?k; (case a=>k_is); (case l=>k_is); (case c=>k_is); (case k=>k_is))
  (case d10=>refine' L2.def_mk KX G ?a ?l ?c ?k; (case a=>k_is); (case l=>k_is); (case c=>k_is); (case k=>k_is))
  (case d11=>refine' L2.def_mk KX G ?a ?l ?c ?k; (case a=>k_is); (case l=>k_is); (case c=>k_is); (case k=>k_is))
  (case d12=>refine' L2.def_mk KX G ?a ?l ?c ?k; (case a=>k_is); (case l=>k_is); (case c=>k_is); (case k=>k_is))
  (case d13=>refine' L2.def_mk KX G ?a ?l ?c ?k; (case a=>k_is); (case l=>k_is); (case c=>k_is); (case k=>k_is))
  (case d14=>refine' L2.def_mk KX G ?a ?l ?c ?k; (case a=>k_is); (case l=>k_is); (case c=>k_is); (case k=>k_is))
  (case d15=>refine' L2.def_mk KX G ?a ?l ?c ?k; (case a=>k_is); (case l=>k_is); (case c=>k_is); (case k=>k_is))
  (case d16=>refine' L2.def_mk KX G ?a ?l ?c ?k; (case a=>k_is); (case l=>k_is); (case c=>k_is); (case k=>k_is))
  (case d17=>refine' L2.def_mk KX G ?a ?l ?c ?k; (case a=>k_is); (case l=>k_is); (case c=>k_is); (case k=>k_is))
  (case d18=>refine' L2.def_mk KX G ?a ?l ?c ?k; (case a=>k_is); (case l=>k_is); (case c=>k_is); (case k=>k_is))
  (case d19=>refine' L2.def_mk KX G ?a ?l ?c ?k; (case a=>k_is); (case l=>k_is); (case c=>k_is); (case k=>k_is))
  (case d20=>refine' L2.def_mk KX G ?a ?l ?c ?k; (case a=>k_is); (case l=>k_is); (case c=>k_is); (case k=>k_is))
  (case d21=>refine' L2.def_mk KX G ?a ?l ?c ?k; (case a=>k_is); (case l=>k_is); (case c=>k_is); (case k=>k_is))
  (case d22=>refine' L2.def_mk KX G ?a ?l ?c ?k; (case a=>k_is); (case l=>k_is); (case c=>k_is); (case k=>k_is))
  (case d23=>refine' L2.def_mk KX G ?a ?l ?c ?k; (case a=>k_is); (case l=>k_is); (case c=>k_is); (case k=>k_is))
  (case d24=>refine' L2.def_mk KX G ?a ?l ?c ?k; (case a=>k_is); (case l=>k_is); (case c=>k_is); (case k=>k_is))
  (case d25=>refine' L2.def_mk KX G ?a ?l ?c ?k; (case a=>k_is); (case l=>k_is); (case c=>k_is); (case k=>k_is))
  (case d26=>refine' L2.def_mk KX G ?a ?l ?c ?k; (case a=>k_is); (case l=>k_is); (case c=>k_is); (case k=>k_is))
  (case d27=>refine' L2.def_mk KX G ?a ?l ?c ?k; (case a=>k_is); (case l=>k_is); (case c=>k_is); (case k=>k_is))
  (case d28=>refine' L2.def_mk KX G ?a ?l ?c ?k; (case a=>k_is); (case l=>k_is); (case c=>k_is); (case k=>k_is))
  (case d29=>refine' L2.def_mk KX G ?a ?l ?c ?k; (case a=>k_is); (case l=>k_is); (case c=>k_is); (case k=>k_is))
  (case d30=>refine' L2.def_mk KX G ?a ?l ?c ?k; (case a=>k_is); (case l=>k_is); (case c=>k_is); (case k=>k_is))
  (case d31=>refine' L2.def_mk KX G ?a ?l ?c ?k; (case a=>k_is); (case l=>k_is); (case c=>k_is); (case k=>k_is))
  (case d32=>refine' L2.def_mk KX G ?a ?l ?c ?k; (case a=>k_is); (case l=>k_is); (case c=>k_is); (case k=>k_is))
  (case d33=>refine' L2.def_mk KX G ?a ?l ?c ?k; (case a=>k_is); (case l=>k_is); (case c=>k_is); (case k=>k_is))
  (case d34=>refine' L2.def_mk KX G ?a ?l ?c ?k; (case a=>k_is); (case l=>k_is); (case c=>k_is); (case k=>k_is))
  (case d35=>refine' L2.def_mk KX G ?a ?l ?c ?k; (case a=>k_is); (case l=>k_is); (case c=>k_is); (case k=>k_is))
  (case d36=>refine' L2.def_mk KX G ?a ?l ?c ?k; (case a=>k_is); (case l=>k_is); (case c=>k_is); (case k=>k_is))
  (case d37=>refine' L2.def_mk KX G ?a ?l ?c ?k; (case a=>k_is); (case l=>k_is); (case c=>k_is); (case k=>k_is))
  (case d38=>refine' L2.def_mk KX G ?a ?l ?c ?k; (case a=>k_is); (case l=>k_is); (case c=>k_is); (case k=>k_is))
  (case d39=>refine' L2.def_mk KX G ?a ?l ?c ?k; (case a=>k_is); (case l=>k_is); (case c=>k_is); (case k=>k_is))
  (case d40=>refine' L2.def_mk KX G ?a ?l ?c ?k; (case a=>k_is); (case l=>k_is); (case c=>k_is); (case k=>k_is))
