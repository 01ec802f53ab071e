import PyProof.Rows.All
import Wide.All
import OpenK.AllK
import Wide.FinOn
import Lean
import PyProof.EqAt
import PyProof.EqKinds
import PyProof.TupleCall
import PySem.Challenge.RW_combstrip_k13_strip_comes_again
set_option Elab.async false
set_option linter.all false
set_option maxRecDepth 100000
set_option maxHeartbeats 40000000
local macro_rules | `(tactic| omega) => `(tactic| first | lia | omega +splitDisjunctions)
namespace L2
open PySem PySem.Spec PyProof.Rows
noncomputable abbrev Key:=Sum Int Str
noncomputable def keyIs:Key->Value->Bool
 | .inl k,v=>Value.isInt k v
 | .inr x,v=>Value.isStrOf x v
noncomputable def keyH (w:World):Key->Int
 | .inl k=>hashInt k
 | .inr x=>hashStr w x
theorem zav:∀ {k:Key} {v:Value},keyIs k v=true->(∃ i t,k=Sum.inl i/\v=Value.int i t)\/(∃ x t,k=Sum.inr x/\v=Value.str x t)
 | .inl i,v,h=>by
  obtain ⟨t,e⟩:=Value.isInt_shape (k:=i) (v:=v) h
  exact .inl ⟨i,t,rfl,e⟩
 | .inr x,v,h=>by
  obtain ⟨t,e⟩:=Value.isStrOf_shape (x:=x) (v:=v) h
  exact .inr ⟨x,t,rfl,e⟩
theorem keyIs_int (i:Int) (t:Tok):keyIs (.inl i) (.int i t)=true:=by simp [keyIs,Value.isInt]
theorem keyIs_str (x:Str) (t:Tok):keyIs (.inr x) (.str x t)=true:=by simp [keyIs,Value.isStrOf]
theorem key_ll (a b:Int):decide ((Sum.inl a:Key)=Sum.inl b)=(a == b):=by
 by_cases e:a=b
 ·subst e; simp
 ·have h:¬ (Sum.inl a:Key)=Sum.inl b:=fun q=>e (Sum.inl.inj q)
  rw [decide_eq_false h]
  exact (beq_eq_false_iff_ne.mpr e).symm
theorem key_rr (a b:Str):decide ((Sum.inr a:Key)=Sum.inr b)=decide (a=b):=by
 by_cases e:a=b
 ·subst e; simp
 ·have h:¬ (Sum.inr a:Key)=Sum.inr b:=fun q=>e (Sum.inr.inj q)
  rw [decide_eq_false h,decide_eq_false e]
theorem key_lr (a:Int) (b:Str):decide ((Sum.inl a:Key)=Sum.inr b)=false:=decide_eq_false (fun q=>nomatch q)
theorem key_rl (a:Str) (b:Int):decide ((Sum.inr a:Key)=Sum.inl b)=false:=decide_eq_false (fun q=>nomatch q)
noncomputable def mixKind (prog:Program) (w:World):PySem.KeyKind prog w Key where
 is:=keyIs
 hash:=keyH w
 inj:=fun v a b ha hb=>by
  rcases zav ha with ⟨i,t,rfl,rfl⟩ | ⟨x,t,rfl,rfl⟩
  ·rcases zav hb with ⟨j,u,rfl,e⟩ | ⟨y,u,rfl,e⟩
   ·injection e with e1 _; rw [e1]
   ·exact nomatch e
  ·rcases zav hb with ⟨j,u,rfl,e⟩ | ⟨y,u,rfl,e⟩
   ·exact nomatch e
   ·injection e with e1 _; rw [e1]
 byValue:=fun k v h=>by
  rcases zav h with ⟨i,t,rfl,rfl⟩ | ⟨x,t,rfl,rfl⟩ <;> rfl
 pyHash:=fun hv h=>by
  rcases zav hv with ⟨i,t,rfl,rfl⟩ | ⟨x,t,rfl,rfl⟩
  ·exact wpAny_pyHash_int h
  ·exact wpAny_pyHash_str h
 eqBool:=fun hu hv h=>by
  rcases zav hu with ⟨i,t,rfl,rfl⟩ | ⟨x,t,rfl,rfl⟩
  ·rcases zav hv with ⟨j,u,rfl,rfl⟩ | ⟨y,u,rfl,rfl⟩
   ·rw [key_ll] at h; exact wpAny_eqBool_int h
   ·rw [key_lr] at h; exact SeqAt.EqAt.int_str i t y u _ _ _ _ h
  ·rcases zav hv with ⟨j,u,rfl,rfl⟩ | ⟨y,u,rfl,rfl⟩
   ·rw [key_rl] at h; exact SeqAt.EqAt.str_int x t j u _ _ _ _ h
   ·rw [key_rr] at h; exact wpAny_eqBool_str h
 «strs» := fun k x t v h=>by
  rcases zav h with ⟨i,u,rfl,e⟩ | ⟨y,u,rfl,e⟩
  ·exact nomatch e
  ·injection e with e1 _
   subst e1
   cases v <;> rfl
theorem mixKind_int (prog:Program) (w:World) (i:Int) (t:Tok):(mixKind prog w).is (.inl i) (.int i t)=true:=keyIs_int i t
theorem mixKind_str (prog:Program) (w:World) (x:Str) (t:Tok):(mixKind prog w).is (.inr x) (.str x t)=true:=keyIs_str x t
inductive V where
 | non | bl (b:Bool) | int (i:Int) | str (x:Str) | byt (b:Array UInt8) | flt (b:UInt64) | ref (a:Addr) | ty (n:String)
 deriving DecidableEq
noncomputable def RelV:V->Value->Prop
 | .non,u=>u=Value.none
 | .bl b,u=>u=Value.bool b
 | .int i,u=>∃ t,u=Value.int i t
 | .str x,u=>∃ t,u=Value.str x t
 | .byt b,u=>∃ t,u=Value.bytes b t
 | .flt b,u=>∃ t,u=Value.float b t
 | .ref a,u=>u=Value.ref a
 | .ty n,u=>u=Value.type n
noncomputable abbrev Vals:List V->List Value->Prop:=Paired RelV
theorem Vals.length {xs:List V} {us:List Value} (r:Vals xs us):xs.length=us.length:=Paired.length r
theorem Vals.get:∀ {xs:List V} {us:List Value} {i:Nat} {x:V},Vals xs us->xs[i]?=some x->∃ u,us[i]?=some u/\RelV x u
 | _,_,_,_,.nil,e=>by simp at e
 | _,_,0,_,.cons r _,e=>by simp at e; subst e; exact ⟨_,rfl,r⟩
 | _,_,i + 1,x,.cons _ t,e=>by
  obtain ⟨u,h1,h2⟩:=Vals.get (i:=i) (x:=x) t (by simpa using e)
  exact ⟨u,by simpa using h1,h2⟩
theorem Vals.append:∀ {xs ys:List V} {us ws:List Value},Vals xs us->Vals ys ws->Vals (xs ++ ys) (us ++ ws)
 | _,_,_,_,.nil,s=>s
 | _,_,_,_,.cons r t,s => .cons r (Vals.append t s)
noncomputable def RelO:Option V->Option Value->Prop
 | some v,some u=>RelV v u
 | none,none=>True
 | _,_=>False
noncomputable def KV {κ : Type}:List (κ × V)->List (κ × Value)->Prop:=Paired fun (p : κ × V) (q : κ × Value)=>p.1=q.1/\RelV p.2 q.2
noncomputable def kV:Key->V
 | .inl i => .int i
 | .inr x => .str x
inductive HO where
  | lst (xs:List V)
  | tup (xs:List V)
  | dK (kvs:List (Key×V)) | dT (kvs:List (List Key×V))
  | set (S:Int->Bool) (n:Nat)
  | ins (C dx:Addr) (fs:List (Str×V))
  | own (x:Addr)
  | xd (fs:List (Str×V))
  | met (f x:Addr)
  | rng (lo hi:Int)
  | frz (o:Obj) (u:HO)
  | tbl (ps:Array Value)
  | ext (φ : Heap->Prop)
noncomputable abbrev Hp:=Addr->Option HO
noncomputable def upd (H:Hp) (a:Addr) (o:HO):Hp:=fun b=>if b=a then some o else H b
theorem zac {H:Hp} {a:Addr} {o:HO}:upd H a o a=some o:=by unfold upd; rw [if_pos rfl]
theorem zah {H:Hp} {a b:Addr} {o:HO} (h:b≠a):upd H a o b=H b:=by unfold upd; rw [if_neg h]
theorem zgB {H:Hp} {a b:Addr} {o u:HO} (h:H a=some o) (h':H b=some u) (d:o≠u):a≠b:=by
 intro e; subst e; rw [h] at h'; exact d (Option.some.inj h')
theorem zai {H:Hp} {a b:Addr} {o:HO} (h:H a=some o) (h':H b=none):a≠b:=by
 intro e; subst e; rw [h] at h'; cases h'
section
variable (P:Program) (w:World)
noncomputable def ObjOk (H:Hp) (h:Heap) (a:Addr):HO->Prop
 | .lst xs=>xs.length<=sizeLine/\∃ (its:List Value) (n:Nat),Vals xs its/\h.get? a=some { cls := .type "list",data := .seq its.toArray n }
 | .tup xs=>xs.length<=sizeLine/\∃ its:List Value,Vals xs its/\IsTup h a its.toArray
 | .dK kvs=>kvs.length<=sizeLine/\(a == sysModules)=false/\∃ vs,KV kvs vs/\h.DictOf (mixKind P w) a vs
 | .dT kvs=>kvs.length<=sizeLine/\(a == sysModules)=false/\∃ xs:List (List Key×Addr×Value),
   Paired (fun (p:List Key×V) (q:List Key×Addr×Value)=>p.1=q.1/\H q.2.1=some (.tup (p.1.map kV))/\RelV p.2 q.2.2) kvs xs /\
   ∃ o es ep,h.get? a=some o/\o.ExactDict/\o.data = .dict es ep/\es.toList=xs.map (entryOfKey (tupleKind (mixKind P w)))/\(xs.map (·.1)).Nodup
 | .set S n=>h.SetOf (intKind P w) a S n
 | .ins C dx fs=>H dx=some (.own a)/\fs.length<=1000/\dx≠a/\h.get? a=some (PySem.W.instObj C dx) /\
   ∃ mA,h.Ns1 dx mA/\(∀ f,RelO (fs.lookup f) (mA f))/\PySem.Within mA (fs.map (·.1))
 | .own _=>∃ o,h.get? a=some o
 | .xd fs=>∃ mA,h.Ns1 a mA/\∀ f,RelO (fs.lookup f) (mA f)
 | .rng lo hi=>∃ t u v,h.get? a=some { cls := .type "range",data := .fields #[.int lo t,.int hi u,.int 1 v] }
 | .frz o u=>h.get? a=some o/\ObjOk H h a u
 | .tbl ps=>h.get? a=some { cls := .none,data := .fields ps }
 | .met f x=>h.get? a=some (PySem.W.methodObj (.ref f) (.ref x))
 | .ext φ => φ h/\(∃ o,h.get? a=some o)/\∀ h1 h2:Heap,φ h1->(∀ o,h1.get? a=some o->h2.get? a=some o) -> φ h2
noncomputable def HOk (H:Hp) (h:Heap):Prop:=∀ a o,H a=some o->ObjOk P w H h a o
end
section
variable {P:Program} {w:World} {H H':Hp} {h h':Heap} {a:Addr} {o:HO}
theorem ObjOk.lt (x:ObjOk P w H h a o):a < h.objs.size:=by
 cases o with
 | lst xs=>obtain ⟨_,_,_,_,e⟩:=x; exact Heap.lt_size e
 | tup xs=>obtain ⟨_,_,_,p⟩:=x; exact p.lt
 | dK kvs=>obtain ⟨_,_,_,_,o,_,_,e,_⟩:=x; exact Heap.lt_size e
 | dT kvs=>obtain ⟨_,_,_,_,o,_,_,e,_⟩:=x; exact Heap.lt_size e
 | set S n=>obtain ⟨o,_,_,_,e,_⟩:=x; exact Heap.lt_size e
 | ins C dx fs=>obtain ⟨_,_,_,e,_⟩:=x; exact Heap.lt_size e
 | own y=>obtain ⟨_,e⟩:=x; exact Heap.lt_size e
 | xd fs=>obtain ⟨_,⟨_,_,_,e,_⟩,_⟩:=x; exact Heap.lt_size e
 | rng lo hi=>obtain ⟨_,_,_,e⟩:=x; exact Heap.lt_size e
 | frz ob u=>obtain ⟨e,_⟩:=x; exact Heap.lt_size e
 | tbl ps=>exact Heap.lt_size (show h.get? a=some _ from x)
 | met f y=>exact Heap.lt_size (show h.get? a=some _ from x)
 | ext φ => obtain ⟨_,⟨_,e⟩,_⟩:=x; exact Heap.lt_size e
theorem Paired.mapP {α β : Type} {F G : α -> β -> Prop}:∀ {l₁ : List α} {l₂ : List β},Paired F l₁ l₂ -> (∀ a b,F a b->G a b)->Paired G l₁ l₂
 | _,_,.nil,_ => .nil
 | _,_,.cons r t,f => .cons (f _ _ r) (Paired.mapP t f)
theorem ObjOk.stay (x:ObjOk P w H h a o) (k:∀ b u,(b=a\/H b=some (.own a))->h.get? b=some u->h'.get? b=some u)
  (ho:∀ b,H b=some (.own a)->H' b=some (.own a)) (ht:∀ b xs,H b=some (.tup xs)->H' b=some (.tup xs)):ObjOk P w H' h' a o:=by
 induction o with
 | lst xs=>obtain ⟨z,its,n,r,e⟩:=x; exact ⟨z,its,n,r,k _ _ (.inl rfl) e⟩
 | tup xs=>obtain ⟨z,its,r,ob,e,c⟩:=x; exact ⟨z,its,r,ob,k _ _ (.inl rfl) e,c⟩
 | dK kvs=>obtain ⟨z,y,vs,r,ob,es,ep,e,c⟩:=x; exact ⟨z,y,vs,r,ob,es,ep,k _ _ (.inl rfl) e,c⟩
 | dT kvs =>
  obtain ⟨z,y,xs,r,ob,es,ep,e,c⟩:=x
  exact ⟨z,y,xs,Paired.mapP r fun p q z=>⟨z.1,ht _ _ z.2.1,z.2.2⟩,ob,es,ep,k _ _ (.inl rfl) e,c⟩
 | set S n=>obtain ⟨ob,es,ep,t,e,c⟩:=x; exact ⟨ob,es,ep,t,k _ _ (.inl rfl) e,c⟩
 | ins C dx fs =>
  obtain ⟨d,z,ne,e,mA,⟨od,es,ep,e2,c⟩,r⟩:=x
  exact ⟨ho _ d,z,ne,k _ _ (.inl rfl) e,mA,⟨od,es,ep,k _ _ (.inr d) e2,c⟩,r⟩
 | own y=>obtain ⟨ob,e⟩:=x; exact ⟨ob,k _ _ (.inl rfl) e⟩
 | xd fs=>obtain ⟨mA,⟨od,es,ep,e,c⟩,r⟩:=x; exact ⟨mA,⟨od,es,ep,k _ _ (.inl rfl) e,c⟩,r⟩
 | rng lo hi=>obtain ⟨t,u,v,e⟩:=x; exact ⟨t,u,v,k _ _ (.inl rfl) e⟩
 | frz ob u ih=>obtain ⟨e,q⟩:=x; exact ⟨k _ _ (.inl rfl) e,ih q⟩
 | tbl ps =>
  have e:h.get? a=some { cls := .none,data := .fields ps }:=x
  show h'.get? a=some { cls := .none,data := .fields ps }
  exact k a _ (.inl rfl) e
 | met f y =>
  have e:h.get? a=some (PySem.W.methodObj (.ref f) (.ref y)):=x
  show h'.get? a=some (PySem.W.methodObj (.ref f) (.ref y))
  exact k a _ (.inl rfl) e
 | ext φ => obtain ⟨p,⟨o,e⟩,st⟩:=x; exact ⟨st _ _ p fun o q=>k _ _ (.inl rfl) q,⟨o,k _ _ (.inl rfl) e⟩,st⟩
theorem HOk.lt (x:HOk P w H h) (e:H a=some o):a < h.objs.size:=(x a o e).lt
theorem HOk.fresh (x:HOk P w H h) (e:h.objs.size<=a):H a=none:=by
 cases q:H a with
 | none=>rfl
 | some u=>exact absurd (Nat.lt_of_lt_of_le (x.lt q) e) (Nat.lt_irrefl _)
theorem HOk.kept (x:HOk P w H h) (k:∀ b u,h.get? b=some u->h'.get? b=some u):HOk P w H h':=fun a o e =>
 (x a o e).stay (fun b u _ q=>k b u q) (fun _ q=>q) fun _ _ q=>q
theorem HOk.laid (x:HOk P w H h) (k:∀ b u,h.get? b=some u->h'.get? b=some u) (hp:h.objs.size<=a) (new:ObjOk P w (upd H a o) h' a o):HOk P w (upd H a o) h':=fun b u e=>by
 have hn:=x.fresh hp
 by_cases hb:b=a
 ·subst hb; rw [zac] at e; cases e; exact new
 ·rw [zah hb] at e
  exact (x b u e).stay (fun c v _ q=>k c v q) (fun c q=>by rw [zah (zai q hn)]; exact q) fun c xs q=>by rw [zah (zai q hn)]; exact q
end
noncomputable def Rd (H:Hp) (a:Addr) (u:HO):Prop:=H a=some u\/∃ o,H a=some (.frz o u)
theorem Rd.ok {P:Program} {w:World} {H:Hp} {h:Heap} {a:Addr} {u:HO} (r:Rd H a u) (x:HOk P w H h):ObjOk P w H h a u:=by
 rcases r with r | ⟨o,r⟩
 ·exact x a u r
 ·obtain ⟨_,q⟩:=x a _ r
  exact q
noncomputable def Mut:Option HO->Prop
 | some (.lst _)=>True
 | some (.dK _)=>True
 | some (.dT _)=>True
 | some (.set _ _)=>True
 | some (.ins _ _ _)=>True
 | some (.ext _)=>True
 | _=>False
section
variable {P:Program} {w:World} {H:Hp} {h h':Heap} {x e:Addr} {o':HO}
theorem HOk.write (ok:HOk P w H h) (mu:Mut (H x)) (he:e=x\/H e=some (.own x)) (k:∀ b u,b≠e->h.get? b=some u->h'.get? b=some u) (heo:∃ u,h'.get? e=some u)
  (new:ObjOk P w (upd H x o') h' x o'):HOk P w (upd H x o') h':=fun b u q=>by
 have nown:∀ c y,H c=some (.own y)->c≠x:=fun c y r z=>by subst z; rw [r] at mu; exact mu
 have ntup:∀ c xs,H c=some (.tup xs)->c≠x:=fun c xs r z=>by subst z; rw [r] at mu; exact mu
 by_cases hb:b=x
 ·subst hb; rw [zac] at q; cases q; exact new
 ·rw [zah hb] at q
  by_cases hbe:b=e
  ·have q':H b=some (.own x):=by
    rcases he with z | z
    ·exact absurd (hbe.trans z) hb
    ·rw [hbe]; exact z
   rw [q] at q'; cases q'
   obtain ⟨v,hv⟩:=heo
   exact ⟨v,by rw [hbe]; exact hv⟩
  ·refine (ok b u q).stay (fun c v hc r=>k c v ?_ r) (fun c r=>by rw [zah (nown c b r)]; exact r) fun c xs r=>by rw [zah (ntup c xs r)]; exact r
   rcases hc with rfl | hc
   ·exact hbe
   ·rintro rfl
    rcases he with z | z
    ·exact nown c b hc z
    ·rw [hc] at z; cases z; exact hb rfl
end
structure Un (fs ex:List Addr) (H H':Hp) (h h':Heap):Prop where
 keep:∀ b o,h.get? b=some o->H b=none->b ∉ fs->b ∉ ex->h'.get? b=some o
 slot:∀ b o,h.get? b=some o->H b=none->b∈fs->b ∉ ex->∃ sl,h'.get? b=some { o with slots:=sl }
 free:∀ b o,h.get? b=some o->H b=none->b ∉ ex->H' b=none
 there:∀ b o,h.get? b=some o->b ∉ ex->∃ o',h'.get? b=some o'
 tups:∀ b xs,H b=some (.tup xs)->H' b=some (.tup xs)
 frzs:∀ b o u,H b=some (.frz o u)->H' b=some (.frz o u)
 tbls:∀ b ps,H b=some (.tbl ps)->∃ more,H' b=some (.tbl (ps ++ more))
section
variable {fs fs' ex ex':List Addr} {H H1 H2:Hp} {h h1 h2 h':Heap} {a x e:Addr} {o:HO}
theorem Un.any (u:Un fs ex H H1 h h1) {b:Addr} {ob:Obj} (q:h.get? b=some ob) (n:H b=none) (hx:b ∉ ex):∃ sl,h1.get? b=some { ob with slots:=sl }:=by
 by_cases hb:b∈fs
 ·exact u.slot b ob q n hb hx
 ·exact ⟨ob.slots,u.keep b ob q n hb hx⟩
theorem Un.trans (a:Un fs ex H H1 h h1) (b:Un fs ex H1 H2 h1 h2):Un fs ex H H2 h h2 where
 keep:=fun c ob q n hc hx=>b.keep c ob (a.keep c ob q n hc hx) (a.free c ob q n hx) hc hx
 slot:=fun c ob q n hc hx=>by
  obtain ⟨sl,e1⟩:=a.slot c ob q n hc hx
  obtain ⟨sl',e2⟩:=b.slot c _ e1 (a.free c ob q n hx) hc hx
  exact ⟨sl',e2⟩
 free:=fun c ob q n hx=>by
  obtain ⟨o',e1⟩:=a.there c ob q hx
  exact b.free c o' e1 (a.free c ob q n hx) hx
 there:=fun c ob q hx=>by
  obtain ⟨o',e1⟩:=a.there c ob q hx
  exact b.there c o' e1 hx
 tups:=fun c xs q=>b.tups c xs (a.tups c xs q)
 frzs:=fun c ob xs q=>b.frzs c ob xs (a.frzs c ob xs q)
 tbls:=fun c ps q=>by
  obtain ⟨m1,e1⟩:=a.tbls c ps q
  obtain ⟨m2,e2⟩:=b.tbls c _ e1
  exact ⟨m1 ++ m2,by rw [e2,Array.append_assoc]⟩
theorem Un.kept (k:∀ b u,h.get? b=some u->h'.get? b=some u):Un fs ex H H h h' :=
 ⟨fun b ob q _ _ _=>k b ob q,fun b ob q _ _ _=>⟨ob.slots,k b ob q⟩,fun _ _ _ n _=>n,fun b ob q _=>⟨ob,k b ob q⟩,fun _ _ q=>q,fun _ _ _ q=>q,fun _ ps q=>⟨#[],by rw [q]; simp⟩⟩
theorem Un.refl:Un fs ex H H h h:=Un.kept fun _ _ q=>q
theorem Un.laid (k:∀ b u,h.get? b=some u->h'.get? b=some u) (hp:h.objs.size<=a) (hn:H a=none):Un fs ex H (upd H a o) h h' where
 keep:=fun b u q _ _ _=>k b u q
 slot:=fun b u q _ _ _=>⟨u.slots,k b u q⟩
 free:=fun b u q n _=>by rw [zah (Nat.ne_of_lt (Nat.lt_of_lt_of_le (Heap.lt_size q) hp))]; exact n
 there:=fun b u q _=>⟨u,k b u q⟩
 tups:=fun b xs q=>by rw [zah (zai q hn)]; exact q
 frzs:=fun b u xs q=>by rw [zah (zai q hn)]; exact q
 tbls:=fun b ps q=>⟨#[],by rw [zah (zai q hn),q]; simp⟩
theorem Un.write (mu:Mut (H x)) (he:e=x\/H e=some (.own x)) (k:∀ b u,b≠e->h.get? b=some u->h'.get? b=some u) (heo:∃ u,h'.get? e=some u):Un fs ex H (upd H x o) h h':=by
 have hx:∀ b,H b=none->b≠x:=fun b n z=>by subst z; rw [n] at mu; exact mu
 have hb:∀ b,H b=none->b≠e:=fun b n z=>by
  subst z
  rcases he with r | r
  ·exact hx b n r
  ·rw [n] at r; cases r
 have hm:∀ b u,H b=some u->¬ Mut (some u)->b≠x:=fun b u q nm z=>by subst z; rw [q] at mu; exact nm mu
 refine ⟨fun b u q n _ _=>k b u (hb b n) q,fun b u q n _ _=>⟨u.slots,k b u (hb b n) q⟩,fun b u q n _=>by rw [zah (hx b n)]; exact n,fun b u q _ => ?_,
  fun b xs q=>by rw [zah (hm b _ q fun z=>z)]; exact q,fun b u xs q=>by rw [zah (hm b _ q fun z=>z)]; exact q,fun b ps q=>⟨#[],by rw [zah (hm b _ q fun z=>z),q]; simp⟩⟩
 by_cases hbe:b=e
 ·subst hbe; exact heo
 ·exact ⟨u,k b u hbe q⟩
end
noncomputable def trk (h:Heap) (H:Hp):List Addr:=(List.range h.objs.size).filter fun a=>(H a).isSome
noncomputable def hidT (h:Heap) (H:Hp):Heap:=PySem.W.hideAll h (trk h H)
theorem hidT_size (h:Heap) (H:Hp):(hidT h H).objs.size=h.objs.size:=PySem.W.hideAll_size _ _
theorem hidT_get {h:Heap} {H:Hp} {b:Addr} {o:Obj} (e:h.get? b=some o) (n:H b=none):(hidT h H).get? b=some o :=
 PySem.W.hideAll_get _ e fun hm=>by
  have q:(H b).isSome=true:=(List.mem_filter.mp hm).2
  rw [n] at q; simp at q
theorem of_hidT {h:Heap} {H:Hp} {b:Addr} {o:Obj} (e:(hidT h H).get? b=some o):h.get? b=some o/\H b=none:=by
 have e':h.get? b=some o:=PySem.W.of_hideAll (trk h H) e
 refine ⟨e',?_⟩
 cases q:H b with
 | none=>rfl
 | some x =>
  have hm:b∈trk h H:=List.mem_filter.mpr ⟨List.mem_range.mpr (Heap.lt_size e'),by simp [q]⟩
  have z:(hidT h H).get? b=none:=PySem.W.hideAll_none (trk h H) hm
  rw [z] at e; cases e
noncomputable def allNews (g h:Heap) (L:Addr):List (Addr×Obj):=(List.range h.objs.size).filterMap fun a=>if a=L\/(g.get? a).isSome=true then none else (h.get? a).map fun o=>(a,o)
noncomputable def rest (g h:Heap) (L d:Addr):List (Addr×Obj):=(allNews g h L).filter fun p=>decide (p.1≠d)
structure Mod (K:W.Frag) (mg:Str->Option Value) (base:Heap):Prop where
 kin:K.In base
 glob:base.Ns mainGlobals mg
 blt:∃ mb,base.Ns builtinsNs mb/\∀ x:Str,x ≠ "__name__" -> mb x=bootBuiltins x
 nolimit:base.NoLimit
structure Cx where
 prog:Program
 w:World
 K:W.Frag
 mg:Str->Option Value
 base:Heap
 A:Around
 N:List Str
 s₀ : Shared
 H₀ : Hp
 env:Env
 outer:List Env
 stack:List Env
 ex:List Addr
 fn:Str->Bool
 calm:Bool
 pn:List (Addr×Obj)
 xe:Value->Shared->Prop
noncomputable def frs (l:List Env):List Addr:=l.filterMap (·.frame)
noncomputable abbrev Cx.fs (X:Cx):List Addr:=frs X.outer
noncomputable def Vis (sc:Scope) (x:Str):Prop:=sc.names.lookup x=some .local\/sc.names.lookup x=some .cell\/sc.names.lookup x=some .free
noncomputable def Loc (sc:Scope) (x:Str):Prop:=sc.names.lookup x=some .local\/sc.names.lookup x=some .cell
noncomputable def Look (env:Env) (h:Heap) (m:Str->Option Value) (x:Str) (u:Value):Prop :=
 (env.kindOf x=some .local/\m x=some u)\/((env.kindOf x=some .cell\/env.kindOf x=some .free)/\∃ c,env.cells.lookup x=some c/\h.IsCell c (some u))
structure Cx.Ok (X:Cx):Prop where
 mod:Mod X.K X.mg X.base
 kind:X.env.scope.kind = .function
 glob:X.env.globals=mainGlobals
 blt:X.env.builtins=builtinsNs
 above:X.s₀.heap.objs.size<=X.env.locals
 inj:∀ x y c,X.env.cells.lookup x=some c->X.env.cells.lookup y=some c->x=y
 has:∀ x,(X.env.kindOf x=some .cell\/X.env.kindOf x=some .free)->∃ c,X.env.cells.lookup x=some c
 cab:∀ x c,X.fn x=true->X.env.cells.lookup x=some c->X.s₀.heap.objs.size<=c
 hd:X.calm=true->X.A.handled=none
 frames:X.A.frames=some X.stack
 stk:X.stack=X.outer\/(X.stack=X.env :: X.outer/\X.env.frame=some X.env.locals)
 exf:∀ b∈X.ex,b≠X.env.locals/\∀ x c,X.env.cells.lookup x=some c->c≠b
 bs:∀ b o,X.base.get? b=some o->X.s₀.heap.get? b=some o/\X.H₀ b=none
 bsz:X.base.objs.size<=X.s₀.heap.objs.size
 noex:∀ b o,X.base.get? b=some o->b ∉ X.ex
 exfs:∀ b∈X.ex,b ∉ X.fs
 funs:X.s₀.heap.FunFrames X.base X.outer
 frf:∀ b∈X.fs,X.H₀ b=none
structure Inv (X:Cx) (pins:List (Addr×Obj)) (σ : List (Option V)) (H:Hp) (s:Shared):Prop where
 ok:X.Ok
 os:s.os=X.s₀.os
 bare:AllBare s.gens
 base:Un X.fs X.ex X.H₀ H X.s₀.heap s.heap
 loc:∃ m,s.heap.Ns X.env.locals m/\∀ (i:Nat) (x:Str) (v:V),X.N[i]?=some x -> σ[i]?=some (some v)->Vis X.env.scope x->∃ u,RelV v u/\Look X.env s.heap m x u
 cell:∀ x c,X.env.cells.lookup x=some c->∃ v,s.heap.IsCell c v
 free:H X.env.locals=none
 freeC:∀ x c,X.env.cells.lookup x=some c->H c=none
 pin:∀ p∈X.pn ++ pins,s.heap.get? p.1=some p.2/\H p.1=none/\p.1≠X.env.locals/\p.1 ∉ X.fs/\∀ v,p.2.data ≠ .cell v
 hok:HOk X.prog X.w H s.heap
 len : σ.length=X.N.length
section
variable {X:Cx} {pins:List (Addr×Obj)} {σ : List (Option V)} {H H':Hp} {s:Shared} {h':Heap}
theorem Cx.Ok.nofr (ok:X.Ok) {b:Addr} {o:Obj} (e:X.base.get? b=some o):b ∉ X.fs:=fun hb=>by
 have:=(ok.funs.mem hb).1
 rw [e] at this; cases this
theorem Inv.bs (I:Inv X pins σ H s):∀ b o,X.base.get? b=some o->s.heap.get? b=some o/\H b=none:=fun b o e =>
 ⟨I.base.keep b o (I.ok.bs b o e).1 (I.ok.bs b o e).2 (I.ok.nofr e) (I.ok.noex b o e),I.base.free b o (I.ok.bs b o e).1 (I.ok.bs b o e).2 (I.ok.noex b o e)⟩
theorem Inv.bk (I:Inv X pins σ H s):∀ b o,X.base.get? b=some o->s.heap.get? b=some o:=fun b o e=>(I.bs b o e).1
theorem Inv.mod (I:Inv X pins σ H s):Mod X.K X.mg X.base:=I.ok.mod
theorem Inv.kIn (I:Inv X pins σ H s):X.K.In s.heap:=I.ok.mod.kin.keeps I.bk
theorem Inv.lt (I:Inv X pins σ H s):X.env.locals < s.heap.objs.size:=let ⟨_,hn,_⟩:=I.loc; hn.lt
theorem Inv.sz (I:Inv X pins σ H s):X.s₀.heap.objs.size<=s.heap.objs.size:=Nat.le_trans I.ok.above (Nat.le_of_lt I.lt)
theorem Inv.nofs (I:Inv X pins σ H s) {a:Addr} (h:s.heap.objs.size<=a):a ∉ X.fs:=fun hb=>by
 obtain ⟨_,o,ho,_⟩:=I.ok.funs.mem hb
 exact absurd (Nat.lt_of_lt_of_le (Heap.lt_size ho) (Nat.le_trans I.sz h)) (Nat.lt_irrefl _)
theorem Inv.cne (I:Inv X pins σ H s):∀ x c,X.env.cells.lookup x=some c->c≠X.env.locals:=fun x c e z=>by
 obtain ⟨v,o,ho,hd⟩:=I.cell x c e
 obtain ⟨m,⟨o',es,ep,ho',hd',_⟩,_⟩:=I.loc
 rw [z,ho'] at ho; cases ho; rw [hd'] at hd; cases hd
theorem Inv.funs (I:Inv X pins σ H s):s.heap.FunFrames X.base X.outer:=by
 have all:∀ (l:List Env),(∀ b∈frs l,b∈X.fs)->X.s₀.heap.FunFrames X.base l->s.heap.FunFrames X.base l:=by
  intro l
  induction l with
  | nil=>intro _ _; trivial
  | cons env r ih =>
   intro hs hl
   obtain ⟨hk,⟨L,o,hf,hn,ho,hd⟩,hr⟩:=hl
   have hL:L∈X.fs:=hs L (by unfold frs; rw [List.filterMap_cons,hf]; exact List.mem_cons_self)
   obtain ⟨sl,e⟩:=I.base.slot L o ho (I.ok.frf L hL) hL fun z=>I.ok.exfs L z hL
   exact ⟨hk,⟨L,_,hf,hn,e,hd⟩,ih (fun b hb=>hs b (by unfold frs; rw [List.filterMap_cons,hf]; exact List.mem_cons_of_mem _ hb)) hr⟩
 exact all X.outer (fun _ hb=>hb) I.ok.funs
theorem Inv.stack (I:Inv X pins σ H s):s.heap.FunFrames X.base X.stack:=by
 rcases I.ok.stk with e | ⟨e,hf⟩
 ·rw [e]; exact I.funs
 ·rw [e]
  obtain ⟨m,hn,_⟩:=I.loc
  refine .cons (by rw [I.ok.kind]; decide) hf hn ?_ I.funs
  exact Heap.get?_none_of_le (Nat.le_trans I.ok.bsz I.ok.above)
theorem Inv.stkSub (I:Inv X pins σ H s):∀ b∈frs X.stack,b∈X.env.locals :: X.fs:=fun b hb=>by
 rcases I.ok.stk with e | ⟨e,hf⟩
 ·rw [e] at hb; exact List.mem_cons_of_mem _ hb
 ·rw [e] at hb
  unfold frs at hb
  rw [List.filterMap_cons,hf] at hb
  exact hb
theorem Inv.stkFree (I:Inv X pins σ H s):∀ b∈frs X.stack,H b=none:=fun b hb=>by
 rcases List.mem_cons.mp (I.stkSub b hb) with e | hb
 ·rw [e]; exact I.free
 ·obtain ⟨_,o,ho,_⟩:=I.ok.funs.mem hb
  exact I.base.free b o ho (I.ok.frf b hb) fun z=>I.ok.exfs b z hb
theorem Inv.step {g':Array GenState} {t':Nat} {d':Drawn} {ch:List Addr} (I:Inv X pins σ H s)
  (hch:∀ b∈ch,(b∈X.ex\/X.s₀.heap.objs.size<=b)/\b≠X.env.locals/\(∀ x c,X.env.cells.lookup x=some c->c≠b)/\∀ p∈X.pn ++ pins,p.1≠b)
  (keep:∀ b o,b≠X.env.locals->b ∉ X.fs->b ∉ ch->s.heap.get? b=some o->H b=none->h'.get? b=some o)
  (slot:∀ b o,b≠X.env.locals->b∈X.fs->b ∉ ch->s.heap.get? b=some o->H b=none->∃ sl,h'.get? b=some { o with slots:=sl }) (free:∀ b o,b ∉ ch->s.heap.get? b=some o->H b=none->H' b=none)
  (there:∀ b o,b ∉ ch->s.heap.get? b=some o->∃ o',h'.get? b=some o')
  (tups:∀ b xs,H b=some (.tup xs)->H' b=some (.tup xs)) (frzs:∀ b o u,H b=some (.frz o u)->H' b=some (.frz o u)) (tbls:∀ b ps,H b=some (.tbl ps)->∃ more,H' b=some (.tbl (ps ++ more)))
  (ns:∀ m,s.heap.Ns X.env.locals m->h'.Ns X.env.locals m) (hok:HOk X.prog X.w H' h') (hg:AllBare g') :
  Inv X pins σ H' { s with heap:=h',gens:=g',drawn:=d',toks:=t' }:=by
 have neL:∀ b o,X.s₀.heap.get? b=some o->b≠X.env.locals:=fun b o e=>Nat.ne_of_lt (Nat.lt_of_lt_of_le (Heap.lt_size e) I.ok.above)
 have neC:∀ b o,X.s₀.heap.get? b=some o->b ∉ X.ex->b ∉ ch:=fun b o e hx hb=>by
  rcases (hch b hb).1 with z | z
  ·exact hx z
  ·exact absurd (Nat.lt_of_lt_of_le (Heap.lt_size e) z) (Nat.lt_irrefl _)
 have cellK:∀ x c,X.env.cells.lookup x=some c->∀ v,s.heap.IsCell c v->h'.IsCell c v:=fun x c e v ⟨o,ho,hd⟩=>by
  have nch:c ∉ ch:=fun z=>(hch c z).2.2.1 x c e rfl
  by_cases hc:c∈X.fs
  ·obtain ⟨sl,q⟩:=slot c o (I.cne x c e) hc nch ho (I.freeC x c e)
   exact ⟨_,q,hd⟩
  ·exact ⟨o,keep c o (I.cne x c e) hc nch ho (I.freeC x c e),hd⟩
 refine ⟨I.ok,I.os,hg,⟨fun b o e n hb hx => ?_,fun b o e n hb hx => ?_,fun b o e n hx => ?_,fun b o e hx => ?_,fun b xs e=>tups b xs (I.base.tups b xs e),fun b o xs e=>frzs b o xs (I.base.frzs b o xs e),fun b ps e => ?_⟩,?_,fun x c e => ?_,?_,fun x c e => ?_,fun p hp => ?_,hok,I.len⟩
 ·exact keep b o (neL b o e) hb (neC b o e hx) (I.base.keep b o e n hb hx) (I.base.free b o e n hx)
 ·obtain ⟨sl,e1⟩:=I.base.slot b o e n hb hx
  obtain ⟨sl',e2⟩:=slot b _ (neL b o e) hb (neC b o e hx) e1 (I.base.free b o e n hx)
  exact ⟨sl',e2⟩
 ·obtain ⟨o',e1⟩:=I.base.there b o e hx
  exact free b o' (neC b o e hx) e1 (I.base.free b o e n hx)
 ·obtain ⟨o',e1⟩:=I.base.there b o e hx
  exact there b o' (neC b o e hx) e1
 ·obtain ⟨m1,e1⟩:=I.base.tbls b ps e
  obtain ⟨m2,e2⟩:=tbls b _ e1
  exact ⟨m1 ++ m2,by rw [e2,Array.append_assoc]⟩
 ·obtain ⟨m,hn,hl⟩:=I.loc
  refine ⟨m,ns m hn,fun i x v e1 e2 e3 => ?_⟩
  obtain ⟨u,r,l⟩:=hl i x v e1 e2 e3
  refine ⟨u,r,?_⟩
  rcases l with l | ⟨k,c,e,z⟩
  ·exact .inl l
  ·exact .inr ⟨k,c,e,cellK x c e _ z⟩
 ·obtain ⟨v,z⟩:=I.cell x c e
  exact ⟨v,cellK x c e v z⟩
 ·obtain ⟨m,⟨o,_,_,ho,_⟩,_⟩:=I.loc
  exact free _ o (fun z=>(hch _ z).2.1 rfl) ho I.free
 ·obtain ⟨v,o,ho,hd⟩:=I.cell x c e
  exact free c o (fun z=>(hch c z).2.2.1 x c e rfl) ho (I.freeC x c e)
 ·obtain ⟨e,n,ne,nf,d⟩:=I.pin p hp
  have nch:p.1 ∉ ch:=fun z=>(hch p.1 z).2.2.2 p hp rfl
  exact ⟨keep p.1 p.2 ne nf nch e n,free p.1 p.2 nch e n,ne,nf,d⟩
theorem Inv.un {t':Nat} (I:Inv X pins σ H s) (u:Un X.fs [] H H' s.heap h') (hok:HOk X.prog X.w H' h'):Inv X pins σ H' { s with heap:=h',toks:=t' }:=by
 obtain ⟨m,⟨o,es,ep,ho,r⟩,_⟩:=id I.loc
 obtain ⟨sl,hL⟩:=u.any ho I.free (by simp)
 exact I.step (g':=s.gens) (d':=s.drawn) (ch := []) (fun _ z=>nomatch z) (fun b o _ hb _ e n=>u.keep b o e n hb (by simp)) (fun b o _ hb _ e n=>u.slot b o e n hb (by simp)) (fun b o _ e n=>u.free b o e n (by simp)) (fun b o _ e=>u.there b o e (by simp)) u.tups u.frzs u.tbls (fun m' hm=>by
  obtain ⟨o',es',ep',ho',r'⟩:=hm
  rw [ho] at ho'; cases ho'
  exact ⟨_,es',ep',hL,r'⟩) hok I.bare
theorem Inv.call {g':Array GenState} {t':Nat} {d':Drawn} {ch:List Addr} (I:Inv X pins σ H s) (u:Un (frs X.stack) ch H H' s.heap h') (hok:HOk X.prog X.w H' h') (hg:AllBare g')
  (hch:∀ b∈ch,(b∈X.ex\/X.s₀.heap.objs.size<=b)/\b≠X.env.locals/\(∀ x c,X.env.cells.lookup x=some c->c≠b)/\∀ p∈X.pn ++ pins,p.1≠b) :
  Inv X pins σ H' { s with heap:=h',gens:=g',drawn:=d',toks:=t' }:=by
 obtain ⟨m,⟨o,es,ep,ho,r⟩,_⟩:=id I.loc
 obtain ⟨sl,hL⟩:=u.any ho I.free fun z=>(hch _ z).2.1 rfl
 exact I.step (ch:=ch) hch (fun b o hL hb hc e n=>u.keep b o e n (fun z=>(List.mem_cons.mp (I.stkSub b z)).elim hL hb) hc) (fun b o _ _ hc e n=>u.any e n hc) (fun b o hc e n=>u.free b o e n hc) (fun b o hc e=>u.there b o e hc) u.tups u.frzs u.tbls (fun m' hm=>by
  obtain ⟨o',es',ep',ho',r'⟩:=hm
  rw [ho] at ho'; cases ho'
  exact ⟨_,es',ep',hL,r'⟩) hok hg
theorem Inv.turned {t':Nat} {it:Addr} (I:Inv X pins σ H s) (k:∀ b o,b≠it->s.heap.get? b=some o->h'.get? b=some o) (hn:H it=none) (hL:it≠X.env.locals)
  (h1:it∈X.ex\/X.s₀.heap.objs.size<=it) (h2:∀ x c,X.env.cells.lookup x=some c->c≠it) (h3:∀ p∈X.pn ++ pins,p.1≠it):Inv X pins σ H { s with heap:=h',toks:=t' }:=by
 have nit:∀ b u,H b=some u->b≠it:=fun b u e z=>by rw [z,hn] at e; cases e
 refine I.step (g':=s.gens) (d':=s.drawn) (ch := [it]) (fun b hb => ?_) (fun b o _ _ hc e _=>k b o (fun z=>hc (by simp [z])) e) (fun b o _ _ hc e _=>⟨o.slots,k b o (fun z=>hc (by simp [z])) e⟩) (fun _ _ _ _ n=>n)
  (fun b o hc e=>⟨o,k b o (fun z=>hc (by simp [z])) e⟩) (fun _ _ e=>e) (fun _ _ _ e=>e) (fun b ps e=>⟨#[],by rw [e]; simp⟩) (fun m hm => ?_) (fun b u e => ?_) I.bare
 ·have e:b=it:=by simpa using hb
  subst e
  exact ⟨h1,hL,h2,h3⟩
 ·obtain ⟨o,es,ep,ho,r⟩:=hm
  exact ⟨o,es,ep,k _ o (Ne.symm hL) ho,r⟩
 ·refine (I.hok b u e).stay (fun c v hc q=>k c v ?_ q) (fun _ q=>q) fun _ _ q=>q
  rcases hc with z | z
  ·rw [z]; exact nit b u e
  ·exact nit c _ z
theorem Inv.tok (I:Inv X pins σ H s) (t:Nat):Inv X pins σ H { s with toks:=t }:=I.un (h':=s.heap) (t':=t) Un.refl I.hok
theorem Inv.kept {t':Nat} (I:Inv X pins σ H s) (k:∀ b u,s.heap.get? b=some u->h'.get? b=some u):Inv X pins σ H { s with heap:=h',toks:=t' }:=I.un (Un.kept k) (I.hok.kept k)
theorem Inv.laid {a:Addr} {o:HO} {t':Nat} (I:Inv X pins σ H s) (k:∀ b u,s.heap.get? b=some u->h'.get? b=some u) (hp:s.heap.objs.size<=a) (new:ObjOk X.prog X.w (upd H a o) h' a o) :
  Inv X pins σ (upd H a o) { s with heap:=h',toks:=t' }:=I.un (Un.laid k hp (I.hok.fresh hp)) (I.hok.laid k hp new)
theorem Inv.write {x e:Addr} {o:HO} {t':Nat} (I:Inv X pins σ H s) (mu:Mut (H x)) (he:e=x\/H e=some (.own x)) (k:∀ b u,b≠e->s.heap.get? b=some u->h'.get? b=some u) (heo:∃ u,h'.get? e=some u)
  (new:ObjOk X.prog X.w (upd H x o) h' x o):Inv X pins σ (upd H x o) { s with heap:=h',toks:=t' }:=I.un (Un.write mu he k heo) (I.hok.write mu he k heo new)
theorem Inv.pins_of {pins':List (Addr×Obj)} (I:Inv X pins σ H s) (h:∀ p∈pins',s.heap.get? p.1=some p.2/\H p.1=none/\p.1≠X.env.locals/\p.1 ∉ X.fs/\∀ v,p.2.data ≠ .cell v):Inv X pins' σ H s :=
 ⟨I.ok,I.os,I.bare,I.base,I.loc,I.cell,I.free,I.freeC,fun p hp=>(List.mem_append.mp hp).elim (fun z=>I.pin p (List.mem_append_left _ z)) (h p),I.hok,I.len⟩
theorem ze0 {N:List Str} (hN:N.Nodup) {i j:Nat} {x:Str} (a:N[i]?=some x) (b:N[j]?=some x):i=j:=by
 obtain ⟨h1,e1⟩:=List.getElem?_eq_some_iff.mp a
 obtain ⟨h2,e2⟩:=List.getElem?_eq_some_iff.mp b
 exact (List.getElem_inj hN).mp (e1.trans e2.symm)
theorem store_ok2 {M:Model} {A:Around} {E:Value->Shared->Prop} {i:Nat} {x:Str} {v:V} {u:Value} {Q:Unit->Shared->Prop} (I:Inv X pins σ H s) (hN:X.N.Nodup) (hi:X.N[i]?=some x) (hx:Loc X.env.scope x) (r:RelV v u)
  (h:∀ s',Inv X pins (σ.set i (some v)) H s'->(∃ a,Heap.SameBut a s.heap s'.heap/\(a=X.env.locals\/X.env.cells.lookup x=some a))->Q () s') (hf:X.fn x=true\/X.env.scope.names.lookup x=some .local:=by first | exact .inl rfl | exact .inr rfl | assumption):wpAny M A (storeName X.env x u) Q E s:=by
 obtain ⟨m,hn,hl⟩:=id I.loc
 have hcls:(X.env.scope.kind == .class || (X.env.scope.kind == .module && X.env.locals != X.env.globals))=false:=by rw [I.ok.kind]; rfl
 have hiσ : i < σ.length:=by rw [I.len]; exact (List.getElem?_eq_some_iff.mp hi).1
 have cne:=I.cne
 have tracked:∀ {a:Addr} {h':Heap},(∃ o,s.heap.get? a=some o/\H a=none)->Heap.SameBut a s.heap h'->HOk X.prog X.w H h':=fun {a h'} ha hs b ob e=>by
  obtain ⟨_,_,hfree⟩:=ha
  refine (I.hok b ob e).stay (fun c w' hc q=>(hs.2 c ?_).trans q) (fun _ q=>q) fun _ _ q=>q
  rintro rfl
  rcases hc with rfl | hc
  ·rw [hfree] at e; cases e
  ·rw [hfree] at hc; cases hc
 rcases hx with hk | hk
 ·refine wpAny_storeName_local hk hn (fun h' hn' hs => ?_) hcls
  obtain ⟨oL,_,_,hoL,_⟩:=id hn
  refine h _ ⟨I.ok,I.os,I.bare,⟨fun b o e n hb hx => ?_,fun b o e n hb hx => ?_,I.base.free,fun b o e hx => ?_,I.base.tups,I.base.frzs,I.base.tbls⟩,⟨_,hn',fun j y v' e1 e2 e3 => ?_⟩,fun y c e => ?_,I.free,I.freeC,fun p hp => ?_,tracked ⟨oL,hoL,I.free⟩ hs,by simpa using I.len⟩ ⟨_,hs,.inl rfl⟩
  ·exact (hs.2 b (Nat.ne_of_lt (Nat.lt_of_lt_of_le (Heap.lt_size e) I.ok.above))).trans (I.base.keep b o e n hb hx)
  ·obtain ⟨sl,e1⟩:=I.base.slot b o e n hb hx
   exact ⟨sl,(hs.2 b (Nat.ne_of_lt (Nat.lt_of_lt_of_le (Heap.lt_size e) I.ok.above))).trans e1⟩
  ·obtain ⟨o',e1⟩:=I.base.there b o e hx
   exact ⟨o',(hs.2 b (Nat.ne_of_lt (Nat.lt_of_lt_of_le (Heap.lt_size e) I.ok.above))).trans e1⟩
  ·by_cases hj:j=i
   ·subst hj
    rw [hi] at e1; cases e1
    rw [List.getElem?_set_self hiσ] at e2
    cases e2
    exact ⟨u,r,.inl ⟨hk,by simp⟩⟩
   ·rw [List.getElem?_set_ne (Ne.symm hj)] at e2
    obtain ⟨u',r',q⟩:=hl j y v' e1 e2 e3
    refine ⟨u',r',?_⟩
    rcases q with ⟨k,e⟩ | ⟨k,c,e,z⟩
    ·refine .inl ⟨k,?_⟩
     have:y≠x:=fun e=>hj (ze0 hN e1 (e ▸ hi))
     simp [this,e]
    ·exact .inr ⟨k,c,e,z.sameBut hs (cne y c e)⟩
  ·obtain ⟨w',z⟩:=I.cell y c e
   exact ⟨w',z.sameBut hs (cne y c e)⟩
  ·obtain ⟨e,n,ne,nf,d⟩:=I.pin p hp
   exact ⟨(hs.2 p.1 ne).trans e,n,ne,nf,d⟩
 ·have hfn:X.fn x=true:=by
   rcases hf with z | z
   ·exact z
   ·rw [z] at hk; cases hk
  obtain ⟨c,hc⟩:=I.ok.has x (.inl hk)
  obtain ⟨w',z⟩:=I.cell x c hc
  refine wpAny_storeName_cell I.ok.kind hk hc z (fun h' hc' hs => ?_)
  obtain ⟨oc,hoc,hocd⟩:=id z
  refine h { s with heap:=h' } ⟨I.ok,I.os,I.bare,⟨fun b o e n hb hx => ?_,fun b o e n hb hx => ?_,I.base.free,fun b o e hx => ?_,I.base.tups,I.base.frzs,I.base.tbls⟩,⟨m,hn.sameBut hs (Ne.symm (cne x c hc)),fun j y v' e1 e2 e3 => ?_⟩,fun y c' e => ?_,I.free,I.freeC,fun p hp => ?_,tracked ⟨oc,hoc,I.freeC x c hc⟩ hs,by simpa using I.len⟩ ⟨c,hs,.inr hc⟩
  ·exact (hs.2 b (Nat.ne_of_lt (Nat.lt_of_lt_of_le (Heap.lt_size e) (I.ok.cab x c hfn hc)))).trans (I.base.keep b o e n hb hx)
  ·obtain ⟨sl,e1⟩:=I.base.slot b o e n hb hx
   exact ⟨sl,(hs.2 b (Nat.ne_of_lt (Nat.lt_of_lt_of_le (Heap.lt_size e) (I.ok.cab x c hfn hc)))).trans e1⟩
  ·obtain ⟨o',e1⟩:=I.base.there b o e hx
   exact ⟨o',(hs.2 b (Nat.ne_of_lt (Nat.lt_of_lt_of_le (Heap.lt_size e) (I.ok.cab x c hfn hc)))).trans e1⟩
  ·by_cases hj:j=i
   ·subst hj
    rw [hi] at e1; cases e1
    rw [List.getElem?_set_self hiσ] at e2
    cases e2
    exact ⟨u,r,.inr ⟨.inl hk,c,hc,hc'⟩⟩
   ·rw [List.getElem?_set_ne (Ne.symm hj)] at e2
    obtain ⟨u',r',q⟩:=hl j y v' e1 e2 e3
    refine ⟨u',r',?_⟩
    rcases q with q | ⟨k,c',e,z'⟩
    ·exact .inl q
    ·refine .inr ⟨k,c',e,z'.sameBut hs ?_⟩
     rintro rfl
     exact hj (ze0 hN e1 (I.ok.inj _ _ _ e hc ▸ hi))
  ·by_cases hcc:c'=c
   ·subst hcc; exact ⟨_,hc'⟩
   ·obtain ⟨w2,z2⟩:=I.cell y c' e
    exact ⟨w2,z2.sameBut hs hcc⟩
  ·obtain ⟨e,n,ne,nf,d⟩:=I.pin p hp
   refine ⟨(hs.2 p.1 ?_).trans e,n,ne,nf,d⟩
   intro q
   rw [q,hoc] at e
   have q':oc=p.2:=Option.some.inj e
   exact d w' (by rw [<- q']; exact hocd)
theorem zeG {M:Model} {A:Around} {E:Value->Shared->Prop} {i:Nat} {x:Str} {v:V} {u:Value} {Q:Unit->Shared->Prop} (I:Inv X pins σ H s) (hN:X.N.Nodup) (hi:X.N[i]?=some x) (hx:Loc X.env.scope x) (r:RelV v u)
  (h:∀ s',Inv X pins (σ.set i (some v)) H s'->Q () s') (hf:X.fn x=true\/X.env.scope.names.lookup x=some .local:=by first | exact .inl rfl | exact .inr rfl | assumption):wpAny M A (storeName X.env x u) Q E s :=
 store_ok2 I hN hi hx r (fun s' I' _=>h s' I') hf
theorem Inv.call' {s':Shared} {ch:List Addr} (I:Inv X pins σ H s) (ho:s'.os=s.os) (u:Un (frs X.stack) ch H H' s.heap s'.heap) (hok:HOk X.prog X.w H' s'.heap) (hg:AllBare s'.gens)
  (hch:∀ b∈ch,(b∈X.ex\/X.s₀.heap.objs.size<=b)/\b≠X.env.locals/\(∀ x c,X.env.cells.lookup x=some c->c≠b)/\∀ p∈X.pn ++ pins,p.1≠b):Inv X pins σ H' s':=by
 obtain ⟨h',g',d',t',o'⟩:=s'
 have e:o'=s.os:=ho
 subst e
 exact I.call (g':=g') (t':=t') (d':=d') u hok hg hch
end
noncomputable abbrev XK:=Value->Option Addr->Hp->Prop
noncomputable abbrev St:=List (Option V)
noncomputable abbrev VK:=V->Hp->Prop
noncomputable abbrev TE:=St->Hp->VK->Prop
noncomputable abbrev TT:=St->Hp->(Bool->Hp->Prop)->Prop
noncomputable abbrev TA:=St->Hp->(List V->Hp->Prop)->Prop
structure Ends where
 nx:St->Hp->Prop
 rt:VK
 bk:St->Hp->Prop:=fun _ _=>False
 ct:St->Hp->Prop:=fun _ _=>False
noncomputable abbrev TS:=Ends->St->Hp->Prop
noncomputable def EP (X:Cx) (pins:List (Addr×Obj)) (σ : St) (Q:VK) (u:Value) (s':Shared):Prop:=∃ v H',Inv X pins σ H' s'/\RelV v u/\Q v H'
noncomputable def TP (X:Cx) (pins:List (Addr×Obj)) (σ : St) (Q:Bool->Hp->Prop) (b:Bool) (s':Shared):Prop:=∃ H',Inv X pins σ H' s'/\Q b H'
noncomputable def AP (X:Cx) (pins:List (Addr×Obj)) (σ : St) (Q:List V->Hp->Prop) (us:List Value) (s':Shared):Prop:=∃ vs H',Inv X pins σ H' s'/\Vals vs us/\Q vs H'
noncomputable def SP (X:Cx) (pins:List (Addr×Obj)) (D:Ends) (f:Flow) (s':Shared):Prop :=
 match f with
 | .next=>∃ σ' H',Inv X pins σ' H' s'/\D.nx σ' H'
 | .brk=>∃ σ' H',Inv X pins σ' H' s'/\D.bk σ' H'
 | .cont=>∃ σ' H',Inv X pins σ' H' s'/\D.ct σ' H'
 | .ret u=>∃ v σ' H',Inv X pins σ' H' s'/\RelV v u/\D.rt v H'
noncomputable def PE (X:Cx) (e:Expr) (t:TE):Prop :=
 ∀ (pins:List (Addr×Obj)) (s:Shared) (σ : St) (H:Hp) (Q:VK),Inv X pins σ H s->t σ H Q->wpAny (model X.prog X.w) X.A (eval e X.env) (EP X pins σ Q) X.xe s
noncomputable def PT (X:Cx) (e:Expr) (t:TT):Prop :=
 ∀ (pins:List (Addr×Obj)) (s:Shared) (σ : St) (H:Hp) (Q:Bool->Hp->Prop),Inv X pins σ H s->t σ H Q->wpAny (model X.prog X.w) X.A (isTrue e X.env (eval e X.env)) (TP X pins σ Q) X.xe s
noncomputable def PW (X:Cx) (e:Expr) (t:TT):Prop :=
 ∀ (whole:Sem Value) (pins:List (Addr×Obj)) (s:Shared) (σ : St) (H:Hp) (Q:Bool->Hp->Prop),Inv X pins σ H s->t σ H Q->wpAny (model X.prog X.w) X.A (isTrue e X.env whole) (TP X pins σ Q) X.xe s
theorem PW.pt {X:Cx} {e:Expr} {t:TT} (h:PW X e t):PT X e t:=h _
noncomputable def PA (X:Cx) (es:List Expr) (t:TA):Prop :=
 ∀ (pos:Pos) (pins:List (Addr×Obj)) (s:Shared) (σ : St) (H:Hp) (Q:List V->Hp->Prop),Inv X pins σ H s->t σ H Q->wpAny (model X.prog X.w) X.A (spliced (backTo pos (starEach es X.env))) (AP X pins σ Q) X.xe s
noncomputable def PS (X:Cx) (st:Stmt) (t:TS):Prop :=
 ∀ (pins:List (Addr×Obj)) (s:Shared) (σ : St) (H:Hp) (D:Ends),Inv X pins σ H s->t D σ H->wpAny (model X.prog X.w) X.A (exec st X.env) (SP X pins D) X.xe s
noncomputable def PSs (X:Cx) (st:List Stmt) (t:TS):Prop :=
 ∀ (pins:List (Addr×Obj)) (s:Shared) (σ : St) (H:Hp) (D:Ends),Inv X pins σ H s->t D σ H->wpAny (model X.prog X.w) X.A (execs st X.env) (SP X pins D) X.xe s
theorem thn {α : Type} {t:Sem α} {Q Q' : α -> Shared->Prop} {M:Model} {A:Around} {E:Value->Shared->Prop} {s:Shared} (h:wpAny M A t Q E s) (hQ:∀ a s,Q a s->Q' a s):wpAny M A t Q' E s:=wpAny_mono h hQ fun _ _ x=>x
theorem thnE {α β : Type} {Rl : β -> α -> Prop} {X:Cx} {pins:List (Addr×Obj)} {σ : St} {R : β -> Hp->Prop} {t:Sem α} {Q' : α -> Shared->Prop} {M:Model} {A:Around} {E:Value->Shared->Prop} {s:Shared} (h:wpAny M A t (fun u s'=>∃ v H',Inv X pins σ H' s'/\Rl v u/\R v H') E s) (k:∀ u s' v H',Inv X pins σ H' s'->Rl v u->R v H'->Q' u s'):wpAny M A t Q' E s:=wpAny_mono h (fun u s' z=>by
 obtain ⟨v,H',I,r,q⟩:=z
 exact k u s' v H' I r q) fun _ _ x=>x
section
variable {X:Cx}
noncomputable def tVar (i:Nat):TE:=fun σ H Q=>∃ v,σ[i]?=some (some v)/\Q v H
noncomputable def tC (v:V):TE:=fun _ H Q=>Q v H
theorem pe_var {i:Nat} {x:Str} {pos:Pos} (hN:X.N[i]?=some x) (hv:Vis X.env.scope x) (hd:(x == ("__debug__" : Str))=false:=by decide) (hcd:(x == ("__classdict__" : Str))=false:=by decide):PE X (.Name x pos) (tVar i):=by
 intro pins s σ H Q I h
 obtain ⟨v,e,h⟩:=h
 obtain ⟨m,hn,hl⟩:=I.loc
 obtain ⟨u,r,l⟩:=hl i x v hN e hv
 have fin:EP X pins σ Q u s:=⟨v,H,I,r,h⟩
 rcases l with ⟨hk,hm⟩ | ⟨hk,c,hc,hcell⟩
 ·exact wpAny_Name (wpAny_loadName_local I.ok.kind hk hn hm fin) hd
 ·rcases hk with hk | hk
  ·exact wpAny_Name (wpAny_loadName_cell I.ok.kind hk hc hcell fin) hd
  ·exact wpAny_Name (wpAny_loadName_free I.ok.kind hk hc hcell fin hcd) hd
theorem zab {i j pos}:PE X (.Constant (.int i) j pos) (tC (.int i)):=fun _ _ _ H _ I h=>wpAny_Constant_int ⟨.int i,H,I.tok _,⟨_,rfl⟩,h⟩
theorem zbO {b j pos}:PE X (.Constant (.bool b) j pos) (tC (.bl b)):=fun _ _ _ H _ I h=>Constant_bool ⟨.bl b,H,I,rfl,h⟩
theorem zfA {j pos}:PE X (.Constant .none j pos) (tC .non):=fun _ _ _ H _ I h=>Constant_none ⟨.non,H,I,rfl,h⟩
theorem zaR {x j pos}:PE X (.Constant (.str x) j pos) (tC (.str x)):=fun _ _ _ H _ I h=>Calls.Constant_str ⟨.str x,H,I.tok _,⟨_,rfl⟩,h⟩
noncomputable def Gl (X:Cx) (x:Str):Prop:=X.env.kindOf x=some .globalImplicit
theorem zdE {E:Value->Shared->Prop} {pins:List (Addr×Obj)} {s:Shared} {σ : St} {H:Hp} {x:Str} {u:Value} {pos:Pos} {Q:Value->Shared->Prop} (I:Inv X pins σ H s) (hg:Gl X x) (hm:X.mg x=some u) (h:Q u s)
  (hd:(x == ("__debug__" : Str))=false:=by decide):wpAny (model X.prog X.w) X.A (eval (.Name x pos) X.env) Q E s :=
 Calls.Name_function_global I.ok.kind hg (Calls.loadGlobal_global (by rw [I.ok.glob]; exact I.mod.glob.keeps I.bk) hm h) hd
theorem ze1 {E:Value->Shared->Prop} {pins:List (Addr×Obj)} {s:Shared} {σ : St} {H:Hp} {x:Str} {u:Value} {pos:Pos} {Q:Value->Shared->Prop} (I:Inv X pins σ H s) (hg:Gl X x) (hm:X.mg x=none) (hv:bootBuiltins x=some u) (h:Q u s)
  (hn:x ≠ "__name__" := by decide) (hd:(x == ("__debug__" : Str))=false:=by decide):wpAny (model X.prog X.w) X.A (eval (.Name x pos) X.env) Q E s:=by
 obtain ⟨mb,h1,h2⟩:=I.mod.blt
 exact Calls.Name_function_global I.ok.kind hg (Calls.loadGlobal_builtin (by rw [I.ok.glob]; exact I.mod.glob.keeps I.bk) hm (by rw [I.ok.blt]; exact h1.keeps I.bk) ((h2 x hn).trans hv) h) hd
theorem zfC {x:Str} {v:V} {u:Value} {pos:Pos} (hg:Gl X x) (hm:X.mg x=some u) (r:RelV v u) (hd:(x == ("__debug__" : Str))=false:=by decide):PE X (.Name x pos) (tC v) :=
 fun _ _ _ H _ I h=>zdE I hg hm ⟨v,H,I,r,h⟩ hd
theorem zbI {x:Str} {v:V} {u:Value} {pos:Pos} (hg:Gl X x) (hm:X.mg x=none) (hv:bootBuiltins x=some u) (r:RelV v u) (hn:x ≠ "__name__" := by decide) (hd:(x == ("__debug__" : Str))=false:=by decide):PE X (.Name x pos) (tC v) :=
 fun _ _ _ H _ I h=>ze1 I hg hm hv ⟨v,H,I,r,h⟩ hn hd
variable {a b:Expr} {ta tb:TE} {pos:Pos}
noncomputable def PC (X:Cx) (op:CmpOp) (a b:Expr) (t:TE):Prop :=
 ∀ (pins:List (Addr×Obj)) (s:Shared) (σ : St) (H:Hp) (Q:VK),Inv X pins σ H s->t σ H Q ->
  wpAny (model X.prog X.w) X.A (eval a X.env) (fun v s₁ => wpAny (model X.prog X.w) X.A (eval b X.env) (fun u s₂ => wpAny (model X.prog X.w) X.A (compareOp op v u) (EP X pins σ Q) X.xe s₂) X.xe s₁) X.xe s
noncomputable def tB (t:TE):TT:=fun σ H Q=>t σ H fun x H1=>∃ c,x = .bl c/\Q c H1
theorem pe_cmp {op:CmpOp} {t:TE} (h:PC X op a b t) (h1:behindInMarks op b=false:=by first | exact nobehind _ (by decide) (by decide) | rfl):PE X (.Compare a [op] [b] pos) t:=fun pins s σ H Q I hw=>wpAny_Compare1 (h pins s σ H Q I hw) h1
theorem zdX {op:CmpOp} {t:TE} (h:PC X op a b t) (h1:behindInMarks op b=false:=by first | exact nobehind _ (by decide) (by decide) | rfl):PT X (.Compare a [op] [b] pos) (tB t):=by
 intro pins s σ H Q I hw
 refine wpAny_isTrue_Compare1 (thn (h pins s σ H _ I hw) fun v s1 h1=>thn h1 fun u s2 h2=>thn h2 fun c s3 ⟨x,H1,I1,r1,q1⟩ => ?_) h1
 obtain ⟨d,rfl,q⟩:=q1
 cases r1
 exact wpAny_truthy_bool ⟨H1,I1,q⟩
theorem zbh {e:Expr} {t:TE} (h:PE X e t) (he:∀ whole,isTrue e X.env whole=(do let v <- whole; standAt e.pos; holding [v] (truthy v)):=by intro _; rfl):PT X e (tB t):=by
 intro pins s σ H Q I hw
 refine isTrue_plain (thnE (h pins s σ H _ I hw) fun v s1 x H1 I1 r1 q1 => ?_) (he _)
 obtain ⟨d,rfl,q⟩:=q1
 cases r1
 exact wpAny_truthy_bool ⟨H1,I1,q⟩
variable {tA tB':TT} {rest:List Expr}
noncomputable def tOr (t u:TT):TT:=fun σ H Q=>t σ H fun c H1=>if c=true then Q true H1 else u σ H1 Q
noncomputable def tNot (t:TT):TT:=fun σ H Q=>t σ H fun c H1=>Q (!c) H1
theorem zdW (ha:PT X a tA):PW X (.BoolOp .Or [a] pos) tA:=by
 intro wh pins s σ H Q I h
 refine isTrue_or (thn (ha pins s σ H Q I h) fun c s1 e => ?_)
 cases c with
 | false=>exact isTrue_or_nil e
 | true=>exact e
theorem zem (ha:PT X a tA) (hb:PW X (.BoolOp .Or (b :: rest) pos) tB'):PW X (.BoolOp .Or (a :: b :: rest) pos) (tOr tA tB'):=by
 intro wh pins s σ H Q I h
 refine isTrue_or (thn (ha pins s σ H _ I h) fun c s1 ⟨H1,I1,q1⟩ => ?_)
 cases c with
 | true=>exact ⟨H1,I1,q1⟩
 | false=>exact hb wh pins s1 σ H1 Q I1 q1
theorem zbm (ha:PT X a tA):PT X (.UnaryOp .Not a pos) (tNot tA):=by
 intro pins s σ H Q I h
 exact isTrue_not (ha pins s σ H (fun c H1=>Q (!c) H1) I h)
noncomputable def tAndV (ta tb:TE):TE:=fun σ H Q=>ta σ H fun x H1=>∃ c,x = .bl c/\if c=true then tb σ H1 Q else Q (.bl false) H1
noncomputable def tNotV (ta:TE):TE:=fun σ H Q=>ta σ H fun x H1=>∃ c,x = .bl c/\Q (.bl (!c)) H1
theorem zeS {op} {t:TE} (h:PE X a t):PE X (.BoolOp op [a] pos) t:=fun pins s σ H Q I hw=>BoolOp_one (h pins s σ H Q I hw)
theorem zdi (ha:PE X a ta) (hb:PE X (.BoolOp .And (b :: rest) pos) tb):PE X (.BoolOp .And (a :: b :: rest) pos) (tAndV ta tb):=by
 intro pins s σ H Q I h
 refine BoolOp_and (thnE (ha pins s σ H _ I h) fun v s1 x H1 I1 r1 q1 => ?_)
 obtain ⟨c,rfl,q1⟩:=q1
 cases r1
 refine wpAny_truthy_bool ?_
 cases c with
 | true=>exact hb pins s1 σ H1 Q I1 q1
 | false=>exact ⟨.bl false,H1,I1,rfl,q1⟩
theorem pe_not (ha:PE X a ta):PE X (.UnaryOp .Not a pos) (tNotV ta):=by
 intro pins s σ H Q I h
 refine UnaryOp_ (thnE (ha pins s σ H _ I h) fun v s1 x H1 I1 r1 q1 => ?_)
 obtain ⟨c,rfl,q1⟩:=q1
 cases r1
 exact not_of (wpAny_truthy_bool ⟨.bl (!c),H1,I1,rfl,q1⟩)
end
noncomputable def SqL (K:W.Frag) (H:Hp) (a:Addr) (xs:List V):Prop :=
 Rd H a (.lst xs) \/
  ∃ (o:Obj) (its:Array Value) (n:Nat),K.lookup a=some o/\o.cls = .type "list" /\ o.dict=none/\o.data = .seq its n/\its.size<=sizeLine/\Vals xs its.toList
noncomputable def SqT (K:W.Frag) (H:Hp) (a:Addr) (xs:List V):Prop :=
 Rd H a (.tup xs) \/
  ∃ (o:Obj) (its:Array Value) (n:Nat),K.lookup a=some o/\o.cls = .type "tuple" /\ o.data = .seq its n/\its.size<=sizeLine/\Vals xs its.toList
noncomputable def absV:Value->Option V
 | .none=>some .non
 | .bool b=>some (.bl b)
 | .int i _=>some (.int i)
 | .str x _=>some (.str x)
 | .bytes b _=>some (.byt b)
 | .float b _=>some (.flt b)
 | .ref a=>some (.ref a)
 | .type n=>some (.ty n)
 | _=>none
theorem RelV.abs {x:V} {u:Value} (r:RelV x u):absV u=some x:=by
 cases x with
 | non=>cases r; rfl
 | bl _=>cases r; rfl
 | int _=>obtain ⟨t,rfl⟩:=r; rfl
 | str _=>obtain ⟨t,rfl⟩:=r; rfl
 | byt _=>obtain ⟨t,rfl⟩:=r; rfl
 | flt _=>obtain ⟨t,rfl⟩:=r; rfl
 | ref _=>cases r; rfl
 | ty _=>cases r; rfl
theorem RelV.inj {x y:V} {u:Value} (r:RelV x u) (q:RelV y u):x=y:=Option.some.inj (r.abs.symm.trans q.abs)
theorem Vals.inj:∀ {xs ys:List V} {us:List Value},Vals xs us->Vals ys us->xs=ys
 | _,_,_,.nil,.nil=>rfl
 | _,_,_,.cons r t,.cons r' t'=>by rw [r.inj r',Vals.inj t t']
section
variable {X:Cx} {pins:List (Addr×Obj)} {σ : St} {H:Hp} {s:Shared} {a:Addr} {xs ys:List V}
theorem SqL.of {K:W.Frag} (h:H a=some (.lst xs)):SqL K H a xs := .inl (.inl h)
theorem SqT.of {K:W.Frag} (h:H a=some (.tup xs)):SqT K H a xs := .inl (.inl h)
theorem Inv.list (I:Inv X pins σ H s) (h:SqL X.K H a xs):∃ its:List Value,Vals xs its/\PlainL s.heap a its.toArray/\xs.length<=sizeLine:=by
 rcases h with h | ⟨o,its,n,hk,hc,hd,hs,hz,r⟩
 ·obtain ⟨z,its,n,r,e⟩:=h.ok I.hok
  exact ⟨its,r,⟨_,n,e,rfl,rfl,rfl⟩,z⟩
 ·refine ⟨its.toList,r,⟨o,n,I.kIn a o hk,hc,hd,by simpa using hs⟩,?_⟩
  have e:=r.length
  simp only [Array.length_toList] at e
  omega
theorem Inv.tuple (I:Inv X pins σ H s) (h:SqT X.K H a xs):∃ its:List Value,Vals xs its/\IsTup s.heap a its.toArray/\xs.length<=sizeLine:=by
 rcases h with h | ⟨o,its,n,hk,hc,hs,hz,r⟩
 ·obtain ⟨z,its,r,p⟩:=h.ok I.hok
  exact ⟨its,r,p,z⟩
 ·refine ⟨its.toList,r,⟨o,I.kIn a o hk,hc,n,by simpa using hs⟩,?_⟩
  have e:=r.length
  simp only [Array.length_toList] at e
  omega
theorem Inv.list_inj (I:Inv X pins σ H s) (h:SqL X.K H a xs) (h':SqL X.K H a ys):xs=ys:=by
 obtain ⟨its,r,⟨o,n,e,_,_,d⟩,_⟩:=I.list h
 obtain ⟨its',r',⟨o',n',e',_,_,d'⟩,_⟩:=I.list h'
 rw [e] at e'; cases e'
 rw [d] at d'
 injection d' with d1 _
 have:its=its':=by simpa using congrArg Array.toList d1
 subst this
 exact r.inj r'
end
noncomputable abbrev Cx.wish (X:Cx) (E:Value->Shared->Prop):Cx:={ X with xe:=E }
noncomputable abbrev Cx.nox (X:Cx):Cx:=X.wish fun _ _=>False
theorem Cx.Ok.wish {X:Cx} (ok:X.Ok) (E:Value->Shared->Prop):(X.wish E).Ok :=
 ⟨ok.mod,ok.kind,ok.glob,ok.blt,ok.above,ok.inj,ok.has,ok.cab,ok.hd,ok.frames,ok.stk,ok.exf,ok.bs,ok.bsz,ok.noex,ok.exfs,ok.funs,ok.frf⟩
theorem Cx.Ok.unwish {X:Cx} {E:Value->Shared->Prop} (ok:(X.wish E).Ok):X.Ok :=
 ⟨ok.mod,ok.kind,ok.glob,ok.blt,ok.above,ok.inj,ok.has,ok.cab,ok.hd,ok.frames,ok.stk,ok.exf,ok.bs,ok.bsz,ok.noex,ok.exfs,ok.funs,ok.frf⟩
section
variable {X:Cx} {pins:List (Addr×Obj)} {σ : St} {H:Hp} {s:Shared} {E:Value->Shared->Prop}
theorem Inv.wish (I:Inv X pins σ H s) (E:Value->Shared->Prop):Inv (X.wish E) pins σ H s:=⟨I.ok.wish E,I.os,I.bare,I.base,I.loc,I.cell,I.free,I.freeC,I.pin,I.hok,I.len⟩
theorem Inv.unwish (I:Inv (X.wish E) pins σ H s):Inv X pins σ H s:=⟨I.ok.unwish,I.os,I.bare,I.base,I.loc,I.cell,I.free,I.freeC,I.pin,I.hok,I.len⟩
theorem SP.unwish {D:Ends} {f:Flow} {s':Shared} (h:SP (X.wish E) pins D f s'):SP X pins D f s':=by
 cases f with
 | next=>obtain ⟨σ',H',I,q⟩:=h; exact ⟨σ',H',I.unwish,q⟩
 | brk=>obtain ⟨σ',H',I,q⟩:=h; exact ⟨σ',H',I.unwish,q⟩
 | cont=>obtain ⟨σ',H',I,q⟩:=h; exact ⟨σ',H',I.unwish,q⟩
 | ret u=>obtain ⟨v,σ',H',I,r,q⟩:=h; exact ⟨v,σ',H',I.unwish,r,q⟩
theorem PSs.nox {st:List Stmt} {t:TS} (h:PSs X.nox st t):PSs X st t:=fun pins s σ H D I hw =>
 wpAny_mono (h pins s σ H D (I.wish _) hw) (fun _ _ q=>q.unwish) fun _ _ z=>False.elim z
end
section
variable {X:Cx} {st:Stmt} {rest:List Stmt} {t u:TS} {e:Expr} {te:TE} {pos:Pos}
noncomputable def tNext:TS:=fun D σ H=>D.nx σ H
noncomputable def tSeq (t u:TS):TS:=fun D σ H=>t { D with nx:=u D } σ H
theorem zan:PSs X [] tNext:=fun _ _ σ H _ I h=>wpAny_execs_nil ⟨σ,H,I,h⟩
theorem zad (h1:PS X st t) (h2:PSs X rest u):PSs X (st :: rest) (tSeq t u):=by
 intro pins s σ H D I h
 refine wpAny_execs_cons (thn (h1 pins s σ H { D with nx:=u D } I h) fun f s1 q => ?_)
 cases f with
 | next =>
  obtain ⟨σ',H',I',q⟩:=q
  exact h2 pins s1 σ' H' D I' q
 | ret v=>exact q
 | brk=>exact q
 | cont=>exact q
theorem zaf (h1:PS X st t):PSs X [st] t:=by
 intro pins s σ H D I h
 refine wpAny_execs_cons (thn (h1 pins s σ H D I h) fun f s1 q => ?_)
 cases f with
 | next=>exact wpAny_execs_nil q
 | ret v=>exact q
 | brk=>exact q
 | cont=>exact q
theorem Inv.quiet {pins:List (Addr×Obj)} {σ : St} {H:Hp} {s:Shared} (I:Inv X pins σ H s):interactive X.env=false:=by simp [interactive,I.ok.kind]
noncomputable def tDrop (te:TE):TS:=fun D σ H=>te σ H fun _ H1=>D.nx σ H1
theorem za6 (he:PE X e te) (hs:swapsWith e none pos.line X.env=pure false:=by rfl):PS X (.Expr e pos) (tDrop te):=by
 intro pins s σ H D I h
 exact wpAny_Expr_any (thnE (he pins s σ H _ I h) fun v s1 x H1 I1 r1 q1=>⟨σ,H1,I1,q1⟩) I.quiet hs
noncomputable def tRet (te:TE):TS:=fun D σ H=>te σ H D.rt
theorem zal (he:PE X e te):PS X (.Return (some e) pos) (tRet te):=by
 intro pins s σ H D I h
 exact wpAny_Return_some (thnE (he pins s σ H _ I h) fun v s1 x H1 I1 r1 q1=>⟨x,σ,H1,I1,r1,q1⟩)
noncomputable def tIfS (c:TT) (t u:TS):TS:=fun D σ H=>c σ H fun b H1=>if b=true then t D σ H1 else u D σ H1
theorem zaF {c:Expr} {a b:List Stmt} {tc:TT} (hc:PT X c tc) (ha:PSs X a t) (hb:PSs X b u):PS X (.If c a b pos) (tIfS tc t u):=by
 intro pins s σ H D I h
 refine wpAny_If (thn (hc pins s σ H _ I h) fun d s1 ⟨H1,I1,q1⟩ => ?_)
 cases d with
 | true=>exact ha pins s1 σ H1 D I1 q1
 | false=>exact hb pins s1 σ H1 D I1 q1
end
noncomputable abbrev TG:=V->St->Hp->(St->Hp->Prop)->Prop
noncomputable abbrev TGs:=List V->St->Hp->(St->Hp->Prop)->Prop
noncomputable def PG (X:Cx) (target:Expr) (t:TG):Prop :=
 ∀ (pins:List (Addr×Obj)) (s:Shared) (σ : St) (H:Hp) (v:V) (u:Value) (Q:St->Hp->Prop),Inv X pins σ H s->RelV v u->t v σ H Q ->
  wpAny (model X.prog X.w) X.A (assign target X.env u) (fun _ s'=>∃ σ' H',Inv X pins σ' H' s'/\Q σ' H') X.xe s
noncomputable def PGs (X:Cx) (ts:List Expr) (t:TGs):Prop :=
 ∀ (pins:List (Addr×Obj)) (s:Shared) (σ : St) (H:Hp) (vs:List V) (us:List Value) (Q:St->Hp->Prop),Inv X pins σ H s->Vals vs us->t vs σ H Q ->
  wpAny (model X.prog X.w) X.A (assignInOrder ((assignEach ts X.env).map (·.2)) us) (fun _ s'=>∃ σ' H',Inv X pins σ' H' s'/\Q σ' H') X.xe s
section
variable {X:Cx} {pos:Pos}
noncomputable def gName (i:Nat):TG:=fun v σ H Q=>Q (σ.set i (some v)) H
theorem zas {i:Nat} {x:Str} (hN:X.N.Nodup) (hi:X.N[i]?=some x) (hx:Loc X.env.scope x) (hf:X.fn x=true\/X.env.scope.names.lookup x=some .local:=by first | exact .inl rfl | exact .inr rfl | assumption):PG X (.Name x pos) (gName i):=by
 intro pins s σ H v u Q I r h
 exact wpAny_assign_Name (zeG I hN hi hx r (fun s' I'=>⟨_,H,I',h⟩) hf)
noncomputable def gNil:TGs:=fun vs σ H Q=>vs = []/\Q σ H
noncomputable def gCons (t:TG) (u:TGs):TGs:=fun vs σ H Q=>∃ v r,vs=v :: r/\t v σ H fun σ' H'=>u r σ' H' Q
theorem zcn:PGs X [] gNil:=by
 intro pins s σ H vs us Q I r h
 obtain ⟨e,h⟩:=h
 subst e
 cases r
 exact assignInOrder_nil ⟨σ,H,I,h⟩
theorem zaV {e:Expr} {es:List Expr} {t:TG} {u:TGs} (h1:PG X e t) (h2:PGs X es u)
  (hs:(assignEach (e :: es) X.env).map (·.2)=assign e X.env :: (assignEach es X.env).map (·.2):=by rfl):PGs X (e :: es) (gCons t u):=by
 intro pins s σ H vs us Q I r h
 obtain ⟨v,vr,e1,h⟩:=h
 subst e1
 cases r with
 | cons r rr =>
  rw [hs]
  refine assignInOrder_cons (thn (h1 pins s σ H _ _ _ I r h) fun _ s1 ⟨σ1,H1,I1,q1⟩ => ?_)
  exact h2 pins s1 σ1 H1 _ _ Q I1 rr q1
noncomputable def gTup (K:W.Frag) (n:Nat) (t:TGs):TG:=fun v σ H Q=>∃ a xs,v = .ref a/\SqT K H a xs/\xs.length=n/\t xs σ H Q
theorem zfy {es:List Expr} {k:Nat} {t:TGs} {n:Nat} (hc:X.calm=true) (h:PGs X es t)
  (hn:(assignEach es X.env).length=n:=by rfl) (hst:(assignEach es X.env).findIdx? (·.1)=none:=by rfl):PG X (.Tuple es k pos) (gTup X.K n t):=by
 intro pins s σ H v u Q I r hw
 obtain ⟨a,xs,e1,hq,hl,hw⟩:=hw
 subst e1
 cases r
 obtain ⟨its,rv,ht,hz⟩:=I.tuple hq
 refine assign_Tuple_tuple (I.ok.hd hc) ht (by simp [hn,<- hl,rv.length]) hst fun h' hx => ?_
 have I1:Inv X pins σ H { s with heap:=h' }:=I.kept (t':=s.toks) fun b o e=>hx b o (Nat.ne_of_lt (Heap.lt_size e)) e
 exact h pins _ σ H xs _ Q I1 (by simpa using rv) hw
noncomputable def tAsg (te:TE) (g:TG):TS:=fun D σ H=>te σ H fun x H1=>g x σ H1 D.nx
theorem zap {i:Nat} {x:Str} {e:Expr} {te:TE} {pos':Pos} (hN:X.N.Nodup) (hi:X.N[i]?=some x) (hx:Loc X.env.scope x) (he:PE X e te) (hs:swapsWith e (some (.Name x pos')) pos.line X.env=pure false:=by rfl) (hf:X.fn x=true\/X.env.scope.names.lookup x=some .local:=by first | exact .inl rfl | exact .inr rfl | assumption) :
  PS X (.Assign [.Name x pos'] e pos) (tAsg te (gName i)):=by
 intro pins s σ H D I h
 refine wpAny_Assign_Name (thnE (he pins s σ H _ I h) fun v s1 y H1 I1 r1 q1 => ?_) hs
 exact zeG I1 hN hi hx r1 (fun s2 I2=>⟨_,H1,I2,q1⟩) hf
end
section
variable {X:Cx} {pos:Pos}
noncomputable def tWhile (c:TT) (tb:TS):TS:=fun D σ H=>∃ W:Nat->St->Hp->Prop,(∃ m,W m σ H)/\∀ m σ H,W m σ H ->
 c σ H fun b H1=>if b=true then ∃ N:St->Hp->Prop,(∀ σ' H',N σ' H'->∃ m',m' < m/\W m' σ' H')/\tb { D with nx:=N,ct:=N,bk:=D.nx } σ H1 else D.nx σ H1
theorem zcc {c:Expr} {body:List Stmt} {tc:TT} {tb:TS} (hp:PassesOwn (model X.prog X.w) X.A X.env X.xe) (hc:PT X c tc) (hb:PSs X body tb):PS X (.While c body [] pos) (tWhile tc tb):=by
 intro pins s σ H D I h
 obtain ⟨W,⟨m0,w0⟩,turn⟩:=h
 refine wpAny_While (codeAny_whileLoop (fun n s'=>∃ σ' H',Inv X pins σ' H' s'/\W n σ' H') ?_ m0 ⟨σ,H,I,w0⟩)
 rintro n s1 ⟨σ1,H1,I1,w1⟩
 refine wpAny_passesOwn hp (thn (hc pins s1 σ1 H1 _ I1 (turn n σ1 H1 w1)) fun b s2 ⟨H2,I2,q2⟩ => ?_)
 cases b with
 | true =>
  obtain ⟨N,hN,q2⟩:=q2
  rw [if_pos rfl]
  refine wpAny_passesOwn hp (thn (hb pins s2 σ1 H2 _ I2 q2) fun f s3 q3 => ?_)
  cases f with
  | next =>
   obtain ⟨σ3,H3,I3,n3⟩:=q3
   obtain ⟨m',hm,w3⟩:=hN σ3 H3 n3
   exact ⟨m',hm,σ3,H3,I3,w3⟩
  | cont =>
   obtain ⟨σ3,H3,I3,n3⟩:=q3
   obtain ⟨m',hm,w3⟩:=hN σ3 H3 n3
   exact ⟨m',hm,σ3,H3,I3,w3⟩
  | brk=>exact q3
  | ret v=>exact q3
 | false =>
  rw [if_neg Bool.false_ne_true]
  exact wpAny_execs_nil ⟨σ1,H2,I2,q2⟩
end
structure It where
 go:Nat->Hp->Prop
 yld:Nat->Hp->V->Hp->Prop
 stop:Nat->Hp->Prop
noncomputable def FpOk (X:Cx) (pins:List (Addr×Obj)) (H:Hp) (b:Addr):Prop :=
 H b=none/\b≠X.env.locals/\b ∉ X.fs/\(b∈X.ex\/X.s₀.heap.objs.size<=b)/\(∀ x c,X.env.cells.lookup x=some c->c≠b)/\∀ p∈X.pn ++ pins,p.1≠b
theorem Inv.fpOk {X:Cx} {pins:List (Addr×Obj)} {σ : St} {H H':Hp} {s:Shared} {b:Addr} (I:Inv X pins σ H s) (hb:s.heap.objs.size<=b) (hn:H' b=none):FpOk X pins H' b:=by
 refine ⟨hn,Nat.ne_of_gt (Nat.lt_of_lt_of_le I.lt hb),I.nofs hb,.inr (Nat.le_trans I.sz hb),fun x c e z => ?_,fun p hp z => ?_⟩
 ·obtain ⟨v,q⟩:=I.cell x c e
  exact absurd (Nat.lt_of_lt_of_le q.lt (by rw [z]; exact hb)) (Nat.lt_irrefl _)
 ·exact absurd (Nat.lt_of_lt_of_le (Heap.lt_size (I.pin p hp).1) (by rw [z]; exact hb)) (Nat.lt_irrefl _)
structure Turn (P:Program) (w:World) (K:W.Frag) (tg:Expr) (J:It) (fp:List Addr) (it:Addr) (tn:Nat->Heap->Prop):Prop where
 mem:it∈fp
 obj:∀ i h,tn i h->∀ b∈fp,∃ o,h.get? b=some o/\∀ v,o.data ≠ .cell v
 keep:∀ i h h',tn i h->(∀ b∈fp,∀ o,h.get? b=some o->h'.get? b=some o)->tn i h'
 item:∀ (X:Cx),X.prog=P->X.w=w->X.K=K->X.calm=true->∀ (i:Nat) (pins:List (Addr×Obj)) (s:Shared) (σ : St) (H:Hp) (E:Value->Shared->Prop),Inv X pins σ H s->(∀ b∈fp,FpOk X pins H b)->tn i s.heap->J.go i H ->
  wpAny (model P w) X.A (pyNext (.ref it)) (fun r s1=>∃ u,r=some u /\
   wpAny (model P w) X.A (letOwnedTupleGo tg (.ref it) u) (fun _ s2=>∃ x H',Inv X pins σ H' s2/\RelV x u/\J.yld i H x H'/\tn (i + 1) s2.heap/\∀ b∈fp,H' b=none) E s1) E s
 done:∀ (X:Cx),X.prog=P->X.w=w->X.K=K->X.calm=true->∀ (i:Nat) (pins:List (Addr×Obj)) (s:Shared) (σ : St) (H:Hp) (E:Value->Shared->Prop),Inv X pins σ H s->(∀ b∈fp,FpOk X pins H b)->tn i s.heap->J.stop i H ->
  wpAny (model P w) X.A (pyNext (.ref it)) (fun r s1=>r=none/\Inv X pins σ H s1) E s
 self:∀ (A:Around) (i:Nat) (s:Shared) (Q:Value->Shared->Prop) (E:Value->Shared->Prop),tn i s.heap->Q (.ref it) s->wpAny (model P w) A (pyIter (.ref it)) Q E s
noncomputable abbrev TI:=St->Hp->(It->Hp->Prop)->Prop
noncomputable def PIE (X:Cx) (pins:List (Addr×Obj)) (σ : St) (tg:Expr) (R:It->Hp->Prop) (itv:Value) (s2:Shared):Prop :=
 ∃ (it:Addr) (fp:List Addr) (tn:Nat->Heap->Prop) (J:It) (H':Hp),itv = .ref it/\Inv X pins σ H' s2/\Turn X.prog X.w X.K tg J fp it tn/\tn 0 s2.heap/\(∀ b∈fp,FpOk X pins H' b)/\R J H'
noncomputable def PI (X:Cx) (tg iter:Expr) (wi:TI):Prop :=
 ∀ (pins:List (Addr×Obj)) (s:Shared) (σ : St) (H:Hp) (R:It->Hp->Prop),Inv X pins σ H s->wi σ H R ->
  wpAny (model X.prog X.w) X.A (eval iter X.env) (fun v s1=>wpAny (model X.prog X.w) X.A (pyIter v) (PIE X pins σ tg R) X.xe s1) X.xe s
theorem zf7 {M:Model} {A:Around} {E:Value->Shared->Prop} {s:Shared} {tg:Expr} {it:Addr} {u:Value} {o:Obj} {n:String} {vs:Array Value} {Q:Unit->Shared->Prop} (ho:s.heap.get? it=some o) (hc:o.cls = .type n) (hd:o.data = .fields vs)
  (hn : ["enumerate","zip","dict_itemiterator","dict_reverseitemiterator","odict_iterator","itertools.zip_longest","itertools.pairwise"].contains n=false) (hQ:Q () s):wpAny M A (letOwnedTupleGo tg (.ref it) u) Q E s:=by
 unfold letOwnedTupleGo
 cases tg <;> first
  | exact wpAny_pure hQ
  | (cases u <;> first
    | exact wpAny_pure hQ
    | (refine wpAny_bind (wpAny_load ho ?_)
       rw [hc,hd]
       show wpAny M A (if (["enumerate","zip","dict_itemiterator","dict_reverseitemiterator","odict_iterator","itertools.zip_longest","itertools.pairwise"].contains n && vs[0]? == some (rawInt _))=true then _ else _) Q E s
       rw [if_neg (by intro h; rw [hn,Bool.false_and] at h; cases h)]
       exact wpAny_pure hQ))
noncomputable def Itl (K:W.Frag) (a:Addr):It :=
 ⟨fun i H=>∃ xs x,SqL K H a xs/\xs[i]?=some x,fun i H x H'=>H'=H/\∀ xs,SqL K H a xs->xs[i]?=some x,fun i H=>∃ xs,SqL K H a xs/\xs.length<=i⟩
noncomputable def Itr (lo:Int) (n:Nat):It:=⟨fun i _=>i < n,fun i H x H'=>H'=H/\x = .int (lo + i),fun i _=>n<=i⟩
theorem turn_list {P:Program} {w:World} {K:W.Frag} {tg:Expr} (a it:Addr):Turn P w K tg (Itl K a) [it] it (fun i h=>h.IsListIter it a i) where
 mem:=by simp
 obj:=fun i h st b hb=>by
  have e:b=it:=by simpa using hb
  subst e
  obtain ⟨o,e,c,d⟩:=st
  exact ⟨o,e,fun v z=>by rw [d] at z; cases z⟩
 keep:=fun i h h' st k=>st.at fun o e=>k it (by simp) o e
 item:=by
  intro X hP hw hK hc i pins s σ H E I hf st hg
  subst hP hw hK
  obtain ⟨xs,x,hq,hx⟩:=hg
  obtain ⟨its,rv,p,hz⟩:=I.list hq
  obtain ⟨u,hu,ru⟩:=rv.get hx
  obtain ⟨f0,f1,f2,f3,f4,f5⟩:=hf it (by simp)
  refine wpAny_pyNext_list_item st p.isList (x:=u) (by simpa using hu) fun h' st' sb => ?_
  have I1:Inv X pins σ H { s with heap:=h' }:=I.turned (t':=s.toks) (fun b o hb e=>(sb.2 b hb).trans e) f0 f1 f3 f4 f5
  obtain ⟨o,e,c,d⟩:=id st'
  exact ⟨u,rfl,zf7 (s:={ s with heap:=h' }) e c d (by decide) ⟨x,H,I1,ru,⟨rfl,fun ys hy=>by rw [I.list_inj hy hq]; exact hx⟩,st',fun b hb=>(hf b hb).1⟩⟩
 done:=by
  intro X hP hw hK hc i pins s σ H E I hf st hg
  subst hP hw hK
  obtain ⟨xs,hq,hx⟩:=hg
  obtain ⟨its,rv,p,hz⟩:=I.list hq
  obtain ⟨f0,f1,f2,f3,f4,f5⟩:=hf it (by simp)
  have hl:=rv.length
  exact wpAny_pyNext_list_end (I.ok.hd hc) st p.isList (by simp; omega) fun h' eb=>⟨rfl,I.turned (t':=s.toks) (fun b o hb e=>eb b o hb e) f0 f1 f3 f4 f5⟩
 self:=fun _ _ _ _ _ st h=>wpAny_pyIter_listiter st h
theorem turn_range {P:Program} {w:World} {K:W.Frag} {tg:Expr} (it:Addr) (lo:Int) (n:Nat):Turn P w K tg (Itr lo n) [it] it (fun i h=>IsRangeIter h it (lo + (i:Nat) * 1) ((n:Int) - (i:Nat)) 1) where
 mem:=by simp
 obj:=fun i h st b hb=>by
  have e:b=it:=by simpa using hb
  subst e
  exact ⟨_,st,fun v z=>by
   have z':Data.fields _=Data.cell v:=z
   cases z'⟩
 keep:=fun i h h' st k=>k it (by simp) _ st
 item:=by
  intro X hP hw hK hc i pins s σ H E I hf st hg
  subst hP hw hK
  obtain ⟨f0,f1,f2,f3,f4,f5⟩:=hf it (by simp)
  have W:=Walks.range (prog:=X.prog) (w:=X.w) (I.ok.hd hc) it lo 1 n
  refine W.item i s _ _ hg st fun v h' tk hv st' kk => ?_
  obtain ⟨t,rfl⟩:=hv
  have I1:Inv X pins σ H { s with heap:=h',toks:=tk }:=I.turned (fun b o hb e=>kk b o (by simpa using hb) e) f0 f1 f3 f4 f5
  refine ⟨_,rfl,zf7 (s:={ s with heap:=h',toks:=tk }) (n := "range_iterator") st' rfl rfl (by decide) ⟨.int (lo + i),H,I1,⟨t,?_⟩,⟨rfl,rfl⟩,st',fun b hb=>(hf b hb).1⟩⟩
  rw [Int.mul_one]
 done:=by
  intro X hP hw hK hc i pins s σ H E I hf st hg
  subst hP hw hK
  obtain ⟨f0,f1,f2,f3,f4,f5⟩:=hf it (by simp)
  exact wpAny_pyNext_range_end (I.ok.hd hc) st (by have:n<=i:=hg; omega) fun h' eb=>⟨rfl,I.turned (t':=s.toks) (fun b o hb e=>eb b o hb e) f0 f1 f3 f4 f5⟩
 self:=fun _ _ _ _ _ st h=>wpAny_pyIter_rangeiter st h
section
variable {X:Cx} {tg:Expr}
noncomputable def iList (K:W.Frag) (tl:TE):TI:=fun σ H R=>tl σ H fun x H1=>∃ a,x = .ref a/\(∃ xs,SqL K H1 a xs)/\R (Itl K a) H1
theorem zaJ {l:Expr} {tl:TE} (hl:PE X l tl):PI X tg l (iList X.K tl):=by
 intro pins s σ H R I h
 refine thnE (hl pins s σ H _ I h) fun v s1 x H1 I1 r1 q1 => ?_
 obtain ⟨a,e,⟨xs,hq⟩,q⟩:=q1
 subst e
 cases r1
 obtain ⟨its,rv,p,hz⟩:=I1.list hq
 refine wpAny_pyIter_list p.isList ?_
 refine ⟨s1.heap.objs.size,[s1.heap.objs.size],_,_,H1,rfl,I1.kept (t':=s1.toks) fun b o e=>Heap.get?_push_of_some _ e,turn_list a _,⟨_,Heap.get?_push_size _ rfl,rfl,rfl⟩,fun b hb => ?_,q⟩
 have e:b=s1.heap.objs.size:=by simpa using hb
 subst e
 exact I1.fpOk (Nat.le_refl _) (I1.hok.fresh (Nat.le_refl _))
theorem range_it {pins:List (Addr×Obj)} {σ : St} {H:Hp} {s:Shared} {R:It->Hp->Prop} {E:Value->Shared->Prop} {lo hi:Int} {t u v:Tok} {tk:Nat} (I:Inv X pins σ H s) (h1 : -(2 ^ 62)<=lo) (h2:lo < 2 ^ 62) (h3 : -(2 ^ 62)<=hi) (h4:hi < 2 ^ 62)
  (q:R (Itr lo (hi - lo).toNat) H):wpAny (model X.prog X.w) X.A (pyIter (.ref s.heap.objs.size)) (PIE X pins σ tg R) E { s with heap:=s.heap.push { cls := .type "range",data := .fields #[.int lo t,.int hi u,.int 1 v] },toks:=tk }:=by
 refine wpAny_pyIter_range (IsRange.new ..) (small_one h1 h2 h3 h4) ?_
 have I1:Inv X pins σ H { s with heap:=s.heap.push { cls := .type "range",data := .fields #[.int lo t,.int hi u,.int 1 v] },toks:=tk }:=I.kept fun b o e=>Heap.get?_push_of_some _ e
 refine ⟨(s.heap.push { cls := .type "range",data := .fields #[.int lo t,.int hi u,.int 1 v] }).objs.size,[(s.heap.push { cls := .type "range",data := .fields #[.int lo t,.int hi u,.int 1 v] }).objs.size],_,_,H,rfl,
  I1.kept (t':=tk) fun b o e=>Heap.get?_push_of_some _ e,turn_range _ lo (hi - lo).toNat,?_,fun b hb => ?_,q⟩
 ·have e1:lo + ((0:Nat):Int) * 1=lo:=by simp
  have e2:(((hi - lo).toNat:Nat):Int) - ((0:Nat):Int)=Builtin.Range.rangeSize lo hi 1:=by rw [rangeSize_one]; split <;> omega
  show IsRangeIter _ _ (lo + ((0:Nat):Int) * 1) ((((hi - lo).toNat:Nat):Int) - ((0:Nat):Int)) 1
  rw [e1,e2]
  exact Heap.get?_push_size _ rfl
 ·have e:b=(s.heap.push { cls := .type "range",data := .fields #[.int lo t,.int hi u,.int 1 v] }).objs.size:=by simpa using hb
  subst e
  exact I1.fpOk (Nat.le_refl _) (I1.hok.fresh (Nat.le_refl _))
noncomputable def iRng1 (ta:TA):TI:=fun σ H R=>ta σ H fun vs H1=>∃ j:Int,vs = [.int j] /\ -(2 ^ 62)<=j/\j < 2 ^ 62/\R (Itr 0 j.toNat) H1
theorem zbF {a:Expr} {ta:TA} {p pos:Pos} (hg:Gl X "range") (hm:X.mg "range" = none) (ha:PA X [a] ta) (hs:starEach [a] X.env = [(false,eval a X.env)]:=by rfl):PI X tg (.Call (.Name "range" p) [a] [] pos) (iRng1 ta):=by
 intro pins s σ H R I h
 refine Call_ (ze1 I hg hm boot_range (PyProof.Rows.callWith_type1 (thnE (ha pos pins s σ H _ I h) fun us s1 vs H1 I1 r1 q1 => ?_) hs rfl))
 obtain ⟨j,e,q1,q2,q⟩:=q1
 subst e
 cases r1 with
 | cons r rr =>
  cases rr
  obtain ⟨t,rfl⟩:=r
  exact call_range_1 (range_it I1 (by omega) (by omega) q1 q2 (by simpa using q))
noncomputable def tFor (wi:TI) (g:TG) (tb:TS):TS:=fun D σ H=>wi σ H fun J H1=>∃ W:Nat->Nat->St->Hp->Prop,(∃ m,W 0 m σ H1)/\∀ i m σ H,W i m σ H ->
 (J.stop i H/\D.nx σ H)\/(J.go i H/\∃ N:St->Hp->Prop,(∀ σ' H',N σ' H'->∃ m',m' < m/\W (i + 1) m' σ' H')/\∀ x H',J.yld i H x H'->g x σ H' fun σ2 H2=>tb { D with nx:=N,ct:=N,bk:=D.nx } σ2 H2)
noncomputable def pinsAt (fp:List Addr) (h:Heap):List (Addr×Obj):=fp.filterMap fun b=>(h.get? b).map fun o=>(b,o)
theorem zbM {fp:List Addr} {h:Heap} {b:Addr} {o:Obj} (hb:b∈fp) (e:h.get? b=some o):(b,o)∈pinsAt fp h:=List.mem_filterMap.mpr ⟨b,hb,by rw [e]; rfl⟩
theorem of_pinsAt {fp:List Addr} {h:Heap} {p:Addr×Obj} (hp:p∈pinsAt fp h):p.1∈fp/\h.get? p.1=some p.2:=by
 obtain ⟨b,hb,e⟩:=List.mem_filterMap.mp hp
 cases q:h.get? b with
 | none=>rw [q] at e; cases e
 | some o =>
  rw [q] at e
  have e':(b,o)=p:=Option.some.inj e
  subst e'
  exact ⟨hb,q⟩
theorem Inv.pinned {pins:List (Addr×Obj)} {σ : St} {H:Hp} {s:Shared} {fp:List Addr} (I:Inv X pins σ H s) (hf:∀ b∈fp,FpOk X pins H b) (ho:∀ b∈fp,∃ o,s.heap.get? b=some o/\∀ v,o.data ≠ .cell v):Inv X (pins ++ pinsAt fp s.heap) σ H s :=
 I.pins_of fun p hp=>(List.mem_append.mp hp).elim (fun z=>I.pin p (List.mem_append_right _ z)) fun z=>by
  obtain ⟨hb,e⟩:=of_pinsAt z
  obtain ⟨f0,f1,f2,_⟩:=hf p.1 hb
  obtain ⟨o,e',d⟩:=ho p.1 hb
  rw [e] at e'; cases e'
  exact ⟨e,f0,f1,f2,d⟩
theorem Inv.unpinned {pins pl:List (Addr×Obj)} {σ : St} {H:Hp} {s:Shared} (I:Inv X (pins ++ pl) σ H s):Inv X pins σ H s:=I.pins_of fun p hp=>I.pin p (List.mem_append_right _ (List.mem_append_left _ hp))
theorem zbi {iter:Expr} {body:List Stmt} {wi:TI} {g:TG} {tb:TS} {pos:Pos} (hp:PassesOwn (model X.prog X.w) X.A X.env X.xe) (hc:X.calm=true) (hi:PI X tg iter wi) (hg:PG X tg g) (hb:PSs X body tb)
  (hs:∀ x,foldedSetIterable iter X.env x=pure x:=by intro _; rfl):PS X (.For tg iter body [] pos) (tFor wi g tb):=by
 intro pins s σ H D I h
 refine wpAny_For (thn (hi pins s σ H _ I h) fun v s1 h1=>thn h1 fun itv s2 h2 => ?_) hs
 obtain ⟨it,fp,tn,J,H2,e,I2,T,st2,f2,W,⟨m0,w0⟩,turn⟩:=h2
 subst e
 have stat:∀ {H':Hp},(∀ b∈fp,H' b=none)->∀ b∈fp,FpOk X pins H' b:=fun hn b hb=>⟨hn b hb,(f2 b hb).2⟩
 refine codeAny_forLoop_any (fun n s'=>∃ i σ' H',Inv X pins σ' H' s'/\tn i s'.heap/\(∀ b∈fp,H' b=none)/\W i n σ' H') ?_ m0 ⟨0,σ,H2,I2,st2,fun b hb=>(f2 b hb).1,w0⟩
 rintro n s3 ⟨i,σ3,H3,I3,st3,fr3,w3⟩
 rcases turn i n σ3 H3 w3 with ⟨stop,qn⟩ | ⟨go,N,hN,step⟩
 ·refine wpAny_passesOwn hp (thn (T.done X rfl rfl rfl hc i pins s3 σ3 H3 X.xe I3 (stat fr3) st3 stop) fun r s4 ⟨hr,I4⟩ => ?_)
  subst hr
  exact wpAny_execs_nil ⟨σ3,H3,I4,qn⟩
 ·refine wpAny_passesOwn hp (thn (T.item X rfl rfl rfl hc i pins s3 σ3 H3 X.xe I3 (stat fr3) st3 go) fun r s4 ⟨u,hr,h4⟩ => ?_)
  subst hr
  refine wpAny_passesOwn hp (thn h4 fun _ s5 ⟨x,H5,I5,r5,y5,st5,fr5⟩ => ?_)
  have I5':=I5.pinned (stat fr5) (T.obj _ _ st5)
  refine wpAny_passesOwn hp (thn (hg _ s5 σ3 H5 x u _ I5' r5 (step x H5 y5)) fun _ s6 ⟨σ6,H6,I6,q6⟩ => ?_)
  refine wpAny_passesOwn hp (thn (hb _ s6 σ6 H6 _ I6 q6) fun f s7 q7 => ?_)
  have again:∀ {σ7:St} {H7:Hp},Inv X (pins ++ pinsAt fp s5.heap) σ7 H7 s7->N σ7 H7->∃ m,m < n/\∃ i σ' H',Inv X pins σ' H' s7/\tn i s7.heap/\(∀ b∈fp,H' b=none)/\W i m σ' H':=fun {σ7 H7} I7 n7=>by
   obtain ⟨m',hm,w7⟩:=hN σ7 H7 n7
   refine ⟨m',hm,i + 1,σ7,H7,I7.unpinned,T.keep _ _ _ st5 fun b hb o e=>(I7.pin (b,o) (List.mem_append_right _ (List.mem_append_right _ (zbM hb e)))).1,fun b hb => ?_,w7⟩
   obtain ⟨o,e,d⟩:=T.obj _ _ st5 b hb
   exact (I7.pin (b,o) (List.mem_append_right _ (List.mem_append_right _ (zbM hb e)))).2.1
  cases f with
  | next=>obtain ⟨σ7,H7,I7,n7⟩:=q7; exact again I7 n7
  | cont=>obtain ⟨σ7,H7,I7,n7⟩:=q7; exact again I7 n7
  | brk=>obtain ⟨σ7,H7,I7,q7⟩:=q7; exact ⟨σ7,H7,I7.unpinned,q7⟩
  | ret v=>obtain ⟨x7,σ7,H7,I7,r7,q7⟩:=q7; exact ⟨x7,σ7,H7,I7.unpinned,r7,q7⟩
end
noncomputable abbrev R2:=V->V->Hp->VK->Prop
noncomputable def OpR (X:Cx) (f:Value->Value->Sem Value) (r:R2):Prop :=
 ∀ (pins:List (Addr×Obj)) (s:Shared) (σ : St) (H:Hp) (x y:V) (v u:Value) (Q:VK),Inv X pins σ H s->RelV x v->RelV y u->r x y H Q ->
  wpAny (model X.prog X.w) X.A (f v u) (EP X pins σ Q) X.xe s
noncomputable def UnR (X:Cx) (f:Value->Sem Value) (r:V->Hp->VK->Prop):Prop :=
 ∀ (pins:List (Addr×Obj)) (s:Shared) (σ : St) (H:Hp) (x:V) (v:Value) (Q:VK),Inv X pins σ H s->RelV x v->r x H Q ->
  wpAny (model X.prog X.w) X.A (f v) (EP X pins σ Q) X.xe s
noncomputable def CallR (X:Cx) (f:Value) (r:List V->Hp->VK->Prop):Prop :=
 ∀ (pins:List (Addr×Obj)) (s:Shared) (σ : St) (H:Hp) (xs:List V) (us:List Value) (Q:VK),Inv X pins σ H s->Vals xs us->r xs H Q ->
  wpAny (model X.prog X.w) X.A (call f us) (EP X pins σ Q) X.xe s
noncomputable def tOp (r:R2) (ta tb:TE):TE:=fun σ H Q=>ta σ H fun x H1=>tb σ H1 fun y H2=>r x y H2 Q
noncomputable def tUn (r:V->Hp->VK->Prop) (ta:TE):TE:=fun σ H Q=>ta σ H fun x H1=>r x H1 Q
noncomputable def rI (C:Int->Int->Prop) (g:Int->Int->V):R2:=fun x y H Q=>∃ i j,x = .int i/\y = .int j/\C i j/\Q (g i j) H
noncomputable def rI0 (g:Int->Int->V):R2:=fun x y H Q=>∃ i j,x = .int i/\y = .int j/\Q (g i j) H
noncomputable def rU (g:Int->V):V->Hp->VK->Prop:=fun x H Q=>∃ i,x = .int i/\Q (g i) H
section
variable {X:Cx} {a b c:Expr} {ta tb tc:TE} {pos:Pos}
theorem binT (ha:PE X a ta) (hb:PE X b tb) {pins:List (Addr×Obj)} {s:Shared} {σ : St} {H:Hp} {R:V->V->Hp->Prop} (I:Inv X pins σ H s)
  (h:ta σ H fun x H1=>tb σ H1 fun y H2=>R x y H2) {Q:Value->Shared->Prop} {f:Value->Value->Sem Value}
  (hf:∀ v u s2 x y H2,Inv X pins σ H2 s2->RelV x v->RelV y u->R x y H2->wpAny (model X.prog X.w) X.A (f v u) Q X.xe s2) :
  wpAny (model X.prog X.w) X.A (eval a X.env) (fun v s₁ => wpAny (model X.prog X.w) X.A (eval b X.env) (fun u s₂ => wpAny (model X.prog X.w) X.A (f v u) Q X.xe s₂) X.xe s₁) X.xe s:=by
 refine thnE (ha pins s σ H _ I h) fun v s1 x H1 I1 r1 q1 => ?_
 refine thnE (hb pins s1 σ H1 _ I1 q1) fun u s2 y H2 I2 r2 q2 => ?_
 exact hf v u s2 x y H2 I2 r1 r2 q2
theorem zaA {op:Operator} {r:R2} (ho:OpR X (binaryOp op) r) (ha:PE X a ta) (hb:PE X b tb):PE X (.BinOp a op b pos) (tOp r ta tb):=by
 intro pins s σ H Q I h
 exact wpAny_BinOp (binT ha hb I h fun v u s2 x y H2 I2 rx ry q=>ho pins s2 σ H2 x y v u Q I2 rx ry q)
theorem zdy {op:UnaryOp} {r:V->Hp->VK->Prop} (ho:UnR X (unaryOp op) r) (ha:PE X a ta):PE X (.UnaryOp op a pos) (tUn r ta):=by
 intro pins s σ H Q I h
 exact UnaryOp_ (thnE (ha pins s σ H _ I h) fun v s1 x H1 I1 r1 q1=>ho pins s1 σ H1 x v Q I1 r1 q1)
theorem opI {f:Value->Value->Sem Value} {C:Int->Int->Prop} {g:Int->Int->Int}
  (rule:∀ (i j:Int) (t u:Tok) (s:Shared) (Q:Value->Shared->Prop) (E:Value->Shared->Prop),C i j->Q (.int (g i j) s.toks) { s with toks:=s.toks + 1 }->wpAny (model X.prog X.w) X.A (f (.int i t) (.int j u)) Q E s) :
  OpR X f (rI C fun i j => .int (g i j)):=by
 intro pins s σ H x y v u Q I rx ry h
 obtain ⟨i,j,rfl,rfl,hc,q⟩:=h
 obtain ⟨t,rfl⟩:=rx
 obtain ⟨t',rfl⟩:=ry
 exact rule i j t t' s _ _ hc ⟨.int (g i j),H,I.tok _,⟨_,rfl⟩,q⟩
theorem opI0 {f:Value->Value->Sem Value} {g:Int->Int->Int}
  (rule:∀ (i j:Int) (t u:Tok) (s:Shared) (Q:Value->Shared->Prop) (E:Value->Shared->Prop),Q (.int (g i j) s.toks) { s with toks:=s.toks + 1 }->wpAny (model X.prog X.w) X.A (f (.int i t) (.int j u)) Q E s) :
  OpR X f (rI0 fun i j => .int (g i j)):=by
 intro pins s σ H x y v u Q I rx ry h
 obtain ⟨i,j,rfl,rfl,q⟩:=h
 obtain ⟨t,rfl⟩:=rx
 obtain ⟨t',rfl⟩:=ry
 exact rule i j t t' s _ _ ⟨.int (g i j),H,I.tok _,⟨_,rfl⟩,q⟩
theorem opB0 {f:Value->Value->Sem Value} {g:Int->Int->Bool}
  (rule:∀ (i j:Int) (t u:Tok) (s:Shared) (Q:Value->Shared->Prop) (E:Value->Shared->Prop),Q (.bool (g i j)) s->wpAny (model X.prog X.w) X.A (f (.int i t) (.int j u)) Q E s) :
  OpR X f (rI0 fun i j => .bl (g i j)):=by
 intro pins s σ H x y v u Q I rx ry h
 obtain ⟨i,j,rfl,rfl,q⟩:=h
 obtain ⟨t,rfl⟩:=rx
 obtain ⟨t',rfl⟩:=ry
 exact rule i j t t' s _ _ ⟨.bl (g i j),H,I,rfl,q⟩
noncomputable def CDiv (i j:Int):Prop:=0 < j/\j < 1073741824
noncomputable def CMul (i j:Int):Prop:=(-(2 ^ 64) < i/\i < 2 ^ 64)\/(-(2 ^ 64) < j/\j < 2 ^ 64)
theorem CMul.ok {i j:Int} (h:CMul i j):IntMulOk i j:=by
 rcases h with ⟨h1,h2⟩ | ⟨h1,h2⟩
 ·exact .of_left (intBits_le_64 h1 h2)
 ·exact .of_right (intBits_le_64 h1 h2)
theorem two_pow_nn (k:Nat):(0:Int)<=2 ^ k:=by
 rw [two_pow_cast]
 exact Int.natCast_nonneg _
theorem zbR:OpR X (binaryOp .Add) (rI0 fun i j => .int (i + j)):=opI0 fun _ _ _ _ _ _ _ q=>add_int q
theorem zeV:OpR X (binaryOp .Sub) (rI0 fun i j => .int (i - j)):=opI0 fun _ _ _ _ _ _ _ q=>sub_int q
theorem zdZ:OpR X (binaryOp .Mult) (rI CMul fun i j => .int (i * j)):=opI fun _ _ _ _ _ _ _ hc q=>mul_int q hc.ok
theorem zbT:OpR X (binaryOp .FloorDiv) (rI CDiv fun i j => .int (i / j)):=opI fun i j _ _ _ _ _ hc q=>by
 have h1:(0:Int) < j:=hc.1
 have h2:j < 1073741824:=hc.2
 exact floordiv_int (by omega) (by rw [Int.fdiv_eq_ediv_of_nonneg i (by omega)]; exact q) (.inl (PyProof.noPylong_small (by omega)))
theorem zbB:OpR X (binaryOp .Mod) (rI (fun _ j=>0 < j) fun i j => .int (i % j)):=opI fun i j _ _ _ _ _ hc q=>by
 have h1:(0:Int) < j:=hc
 exact mod_int' (by omega) (by rw [Int.fmod_eq_emod_of_nonneg i (by omega)]; exact q)
theorem op_shr:OpR X (binaryOp .RShift) (rI (fun _ j=>0<=j) fun i j => .int (i / 2 ^ j.toNat)):=opI fun i j _ _ _ _ _ hc q =>
 rshift_int hc (by rw [Int.fdiv_eq_ediv_of_nonneg i (two_pow_nn _)]; exact q)
theorem zge:OpR X (binaryOp .BitAnd) (rI0 fun i j => .int (Builtin.bitAnd i j)):=opI0 fun _ _ _ _ _ _ _ q=>and_int q
theorem unI {f:Value->Sem Value} {g:Int->Int}
  (rule:∀ (i:Int) (t:Tok) (s:Shared) (Q:Value->Shared->Prop) (E:Value->Shared->Prop),Q (.int (g i) s.toks) { s with toks:=s.toks + 1 }->wpAny (model X.prog X.w) X.A (f (.int i t)) Q E s) :
  UnR X f (rU fun i => .int (g i)):=by
 intro pins s σ H x v Q I rx h
 obtain ⟨i,rfl,q⟩:=h
 obtain ⟨t,rfl⟩:=rx
 exact rule i t s _ _ ⟨.int (g i),H,I.tok _,⟨_,rfl⟩,q⟩
theorem zb1:UnR X (unaryOp .USub) (rU fun i => .int (-i)):=unI fun _ _ _ _ _ q=>neg_int q
end
noncomputable def scal:V->V->Bool
 | .non,.non=>true | .non,.int _=>true | .int _,.non=>true | .non,.bl _=>true | .bl _,.non=>true | .non,.str _=>true | .str _,.non=>true
 | .int _,.int _=>true | .bl _,.bl _=>true | .str _,.str _=>true | .byt _,.byt _=>true
 | .int _,.str _=>true | .str _,.int _=>true | .bl _,.str _=>true | .str _,.bl _=>true
 | _,_=>false
noncomputable def rEq:R2:=fun x y H Q=>scal x y=true/\Q (.bl (decide (x=y))) H
noncomputable def rNe:R2:=fun x y H Q=>scal x y=true/\Q (.bl (!decide (x=y))) H
theorem zfY {i j:Int}:decide (V.int i=V.int j)=(i == j):=by
 rw [Bool.eq_iff_iff]
 simp
theorem zgp {i j:Bool}:decide (V.bl i=V.bl j)=(i == j):=by
 rw [Bool.eq_iff_iff]
 simp
theorem zfX {i j:Str}:decide (V.str i=V.str j)=(i == j):=by
 rw [Bool.eq_iff_iff]
 simp
theorem zfZ {i j:Array UInt8}:decide (V.byt i=V.byt j)=(i.toList == j.toList):=by
 rw [Bool.eq_iff_iff]
 cases i
 cases j
 simp
section
variable {X:Cx} {a b c:Expr} {ta tb tc:TE} {pos:Pos}
theorem zaw {pins:List (Addr×Obj)} {σ : St} {H:Hp} {s:Shared} {Q:VK} {k k':Bool} (I:Inv X pins σ H s) (q:Q (.bl k) H) (e:k=k'):EP X pins σ Q (.bool k') s:=by
 subst e
 exact ⟨.bl k,H,I,rfl,q⟩
theorem zcB:OpR X (compareOp .Eq) rEq:=by
 intro pins s σ H x y v u Q I rx ry h
 obtain ⟨hs,q⟩:=h
 cases x with
 | non =>
  cases rx
  cases y with
  | non=>cases ry; exact PySem.EqNone.eq_none_none (zaw I q (by simp))
  | bl j=>cases ry; exact PySem.EqNone.eq_none_bool (zaw I q (by simp))
  | int j=>obtain ⟨t',rfl⟩:=ry; exact PySem.EqNone.eq_none_int (zaw I q (by simp))
  | str j=>obtain ⟨t',rfl⟩:=ry; exact PySem.EqNone.eq_none_str (zaw I q (by simp))
  | _=>exact absurd (show false=true from hs) Bool.false_ne_true
 | bl i =>
  cases rx
  cases y with
  | non=>cases ry; exact PySem.EqNone.eq_bool_none (zaw I q (by simp))
  | bl j=>cases ry; exact eq_bool (zaw I q zgp)
  | str j=>obtain ⟨t',rfl⟩:=ry; exact PySem.EqMixed.eq_bool_str (zaw I q (by simp))
  | _=>exact absurd (show false=true from hs) Bool.false_ne_true
 | int i =>
  obtain ⟨t,rfl⟩:=rx
  cases y with
  | non=>cases ry; exact PySem.EqNone.eq_int_none (zaw I q (by simp))
  | int j=>obtain ⟨t',rfl⟩:=ry; exact eq_int (zaw I q zfY)
  | str j=>obtain ⟨t',rfl⟩:=ry; exact PySem.EqMixed.eq_int_str (zaw I q (by simp))
  | _=>exact absurd (show false=true from hs) Bool.false_ne_true
 | str i =>
  obtain ⟨t,rfl⟩:=rx
  cases y with
  | non=>cases ry; exact PySem.EqNone.eq_str_none (zaw I q (by simp))
  | bl j=>cases ry; exact PySem.EqMixed.eq_str_bool (zaw I q (by simp))
  | int j=>obtain ⟨t',rfl⟩:=ry; exact PySem.EqMixed.eq_str_int (zaw I q (by simp))
  | str j=>obtain ⟨t',rfl⟩:=ry; exact eq_str (zaw I q zfX)
  | _=>exact absurd (show false=true from hs) Bool.false_ne_true
 | byt i =>
  obtain ⟨t,rfl⟩:=rx
  cases y with
  | byt j=>obtain ⟨t',rfl⟩:=ry; exact PySem.W.eq_bytes (zaw I q zfZ)
  | _=>exact absurd (show false=true from hs) Bool.false_ne_true
 | _=>cases y <;> exact absurd (show false=true from hs) Bool.false_ne_true
theorem zeo:OpR X (compareOp .NotEq) rNe:=by
 intro pins s σ H x y v u Q I rx ry h
 obtain ⟨hs,q⟩:=h
 cases x with
 | non =>
  cases rx
  cases y with
  | non=>cases ry; exact PySem.EqNone.ne_none_none (zaw I q (by simp))
  | bl j=>cases ry; exact PySem.EqNone.ne_none_bool (zaw I q (by simp))
  | int j=>obtain ⟨t',rfl⟩:=ry; exact PySem.EqNone.ne_none_int (zaw I q (by simp))
  | str j=>obtain ⟨t',rfl⟩:=ry; exact PySem.EqNone.ne_none_str (zaw I q (by simp))
  | _=>exact absurd (show false=true from hs) Bool.false_ne_true
 | bl i =>
  cases rx
  cases y with
  | non=>cases ry; exact PySem.EqNone.ne_bool_none (zaw I q (by simp))
  | bl j=>cases ry; exact ne_bool (zaw I q (congrArg not zgp))
  | str j=>obtain ⟨t',rfl⟩:=ry; exact PySem.EqMixed.ne_bool_str (zaw I q (by simp))
  | _=>exact absurd (show false=true from hs) Bool.false_ne_true
 | int i =>
  obtain ⟨t,rfl⟩:=rx
  cases y with
  | non=>cases ry; exact PySem.EqNone.ne_int_none (zaw I q (by simp))
  | int j=>obtain ⟨t',rfl⟩:=ry; exact ne_int (zaw I q (congrArg not zfY))
  | str j=>obtain ⟨t',rfl⟩:=ry; exact PySem.EqMixed.ne_int_str (zaw I q (by simp))
  | _=>exact absurd (show false=true from hs) Bool.false_ne_true
 | str i =>
  obtain ⟨t,rfl⟩:=rx
  cases y with
  | non=>cases ry; exact PySem.EqNone.ne_str_none (zaw I q (by simp))
  | bl j=>cases ry; exact PySem.EqMixed.ne_str_bool (zaw I q (by simp))
  | int j=>obtain ⟨t',rfl⟩:=ry; exact PySem.EqMixed.ne_str_int (zaw I q (by simp))
  | str j=>obtain ⟨t',rfl⟩:=ry; exact ne_str (zaw I q (congrArg not zfX))
  | _=>exact absurd (show false=true from hs) Bool.false_ne_true
 | byt i =>
  obtain ⟨t,rfl⟩:=rx
  cases y with
  | byt j=>obtain ⟨t',rfl⟩:=ry; exact PySem.W.ne_bytes (zaw I q (congrArg not zfZ))
  | _=>exact absurd (show false=true from hs) Bool.false_ne_true
 | _=>cases y <;> exact absurd (show false=true from hs) Bool.false_ne_true
theorem zgw:OpR X (compareOp .Lt) (rI0 fun i j => .bl (decide (i < j))):=opB0 fun _ _ _ _ _ _ _ q=>lt_int q
theorem zfd:OpR X (compareOp .LtE) (rI0 fun i j => .bl (decide (i<=j))):=opB0 fun _ _ _ _ _ _ _ q=>le_int q
theorem zgx:OpR X (compareOp .Gt) (rI0 fun i j => .bl (decide (j < i))):=opB0 fun _ _ _ _ _ _ _ q=>gt_int q
theorem zf6:OpR X (compareOp .GtE) (rI0 fun i j => .bl (decide (j<=i))):=opB0 fun _ _ _ _ _ _ _ q=>ge_int q
theorem op_isN:OpR X (compareOp .Is) (fun x y H Q=>y = .non/\Q (.bl (decide (x = .non))) H):=by
 intro pins s σ H x y v u Q I rx ry h
 obtain ⟨rfl,q⟩:=h
 cases ry
 refine is_none_gen (zaw I q ?_)
 cases x <;> first
  | (cases rx; rfl)
  | (obtain ⟨t,rfl⟩:=rx; rfl)
theorem op_notN:OpR X (compareOp .IsNot) (fun x y H Q=>y = .non/\Q (.bl (!decide (x = .non))) H):=by
 intro pins s σ H x y v u Q I rx ry h
 obtain ⟨rfl,q⟩:=h
 cases ry
 refine isnot_none_gen (zaw I q ?_)
 cases x <;> first
  | (cases rx; rfl)
  | (obtain ⟨t,rfl⟩:=rx; rfl)
theorem zat (b:Expr) {op:CmpOp} (h:op ≠ .In:=by decide) (h2:op ≠ .NotIn:=by decide):behindInMarks op b=false:=by
 have e1:(op == CmpOp.In)=false:=by cases op <;> first | rfl | exact absurd rfl h
 have e2:(op == CmpOp.NotIn)=false:=by cases op <;> first | rfl | exact absurd rfl h2
 cases b <;> simp [behindInMarks,e1,e2]
theorem zbH {op:CmpOp} {r:R2} (ho:OpR X (compareOp op) r) (ha:PE X a ta) (hb:PE X b tb) (hm:behindInMarks op b=false):PE X (.Compare a [op] [b] pos) (tOp r ta tb):=by
 intro pins s σ H Q I h
 exact wpAny_Compare1 (binT ha hb I h fun v u s2 x y H2 I2 rx ry q=>ho pins s2 σ H2 x y v u Q I2 rx ry q) hm
noncomputable def tTest (t:TE):TT:=fun σ H Q=>t σ H fun x H'=>∃ k,x = .bl k/\Q k H'
theorem zaq {op:CmpOp} {r:R2} (ho:OpR X (compareOp op) r) (ha:PE X a ta) (hb:PE X b tb) (hm:behindInMarks op b=false):PT X (.Compare a [op] [b] pos) (tTest (tOp r ta tb)):=by
 intro pins s σ H Q I h
 refine wpAny_isTrue_Compare1 (thnE (ha pins s σ H _ I h) fun v s1 x H1 I1 r1 q1=>thnE (hb pins s1 σ H1 _ I1 q1) fun u s2 y H2 I2 r2 q2 =>
  thnE (ho pins s2 σ H2 x y v u _ I2 r1 r2 q2) fun c s3 z H3 I3 r3 ⟨k,e,q3⟩ => ?_) hm
 subst e
 cases r3
 exact wpAny_truthy_bool ⟨H3,I3,q3⟩
noncomputable def tChain (r r':R2) (ta tb tc:TE):TE:=fun σ H Q=>ta σ H fun x H1=>tb σ H1 fun y H2=>r x y H2 fun z H3=>∃ k,z = .bl k /\
 (if k=true then tc σ H3 fun w' H4=>r' y w' H4 Q else Q (.bl false) H3)
theorem zeT {op op':CmpOp} {r r':R2} (ho:OpR X (compareOp op) r) (ho':OpR X (compareOp op') r') (ha:PE X a ta) (hb:PE X b tb) (hc:PE X c tc)
  (hm:lastMarks [op,op'] [b,c]=false:=by with_unfolding_all rfl):PE X (.Compare a [op,op'] [b,c] pos) (tChain r r' ta tb tc):=by
 intro pins s σ H Q I h
 refine Compare_chain (thnE (ha pins s σ H _ I h) fun v s1 x H1 I1 r1 q1=>chain_link (thnE (hb pins s1 σ H1 _ I1 q1) fun u s2 y H2 I2 r2 q2 =>
  thnE (ho pins s2 σ H2 x y v u _ I2 r1 r2 q2) fun d s3 z H3 I3 r3 ⟨k,e,q3⟩ => ?_)) hm
 subst e
 cases r3
 refine wpAny_truthy_bool ?_
 cases k with
 | false=>exact ite_ff ⟨.bl false,H3,I3,rfl,q3⟩
 | true=>exact ite_tt (chain_last (thnE (hc pins s3 σ H3 _ I3 q3) fun w' s4 z' H4 I4 r4 q4=>ho' pins s4 σ H4 y z' u w' Q I4 r2 r4 q4))
theorem zeQ {op op':CmpOp} {r r':R2} (ho:OpR X (compareOp op) r) (ho':OpR X (compareOp op') r') (ha:PE X a ta) (hb:PE X b tb) (hc:PE X c tc)
  (hm:lastMarks [op,op'] [b,c]=false:=by with_unfolding_all rfl):PT X (.Compare a [op,op'] [b,c] pos) (tTest (tChain r r' ta tb tc)):=by
 intro pins s σ H Q I h
 refine isTrue_chain (thnE (ha pins s σ H _ I h) fun v s1 x H1 I1 r1 q1=>test_link (thnE (hb pins s1 σ H1 _ I1 q1) fun u s2 y H2 I2 r2 q2 =>
  thnE (ho pins s2 σ H2 x y v u _ I2 r1 r2 q2) fun d s3 z H3 I3 r3 ⟨k,e,q3⟩ => ?_)) hm
 subst e
 cases r3
 refine wpAny_truthy_bool ?_
 cases k with
 | false =>
  obtain ⟨k',e',q'⟩:=q3
  cases e'
  exact ite_ff ⟨H3,I3,q'⟩
 | true =>
  refine ite_tt (test_last (thnE (hc pins s3 σ H3 _ I3 q3) fun w' s4 z' H4 I4 r4 q4=>thnE (ho' pins s4 σ H4 y z' u w' _ I4 r2 r4 q4) fun d' s5 z2 H5 I5 r5 ⟨k2,e2,q5⟩ => ?_))
  subst e2
  cases r5
  exact wpAny_truthy_bool ⟨H5,I5,q5⟩
theorem zd4:(sizeLine:Nat) < 2 ^ 63:=by rw [sizeLine_eq]; decide
theorem op_add_str:OpR X (binaryOp .Add) (fun x y H Q=>∃ i j,x = .str i/\y = .str j/\i.length + j.length<=sizeLine/\Q (.str (i ++ j)) H):=by
 intro pins s σ H x y v u Q I rx ry h
 obtain ⟨i,j,rfl,rfl,hz,q⟩:=h
 obtain ⟨t,rfl⟩:=rx
 obtain ⟨t',rfl⟩:=ry
 exact add_str (fun t' tk=>⟨.str (i ++ j),H,I.tok _,⟨_,rfl⟩,q⟩) hz
theorem zbq {x:V} {us:List Value} (r:Vals [x] us):∃ u,us = [u]/\RelV x u:=by
 cases r with
 | cons r1 r2=>cases r2; exact ⟨_,rfl,r1⟩
theorem vals2 {x y:V} {us:List Value} (r:Vals [x,y] us):∃ u w',us = [u,w']/\RelV x u/\RelV y w':=by
 cases r with
 | cons r1 r2 =>
  cases r2 with
  | cons r3 r4=>cases r4; exact ⟨_,_,rfl,r1,r3⟩
end
structure ObjM (h:Heap) (x dx C:Addr) (mA:Str->Option Value):Prop where
 obj:h.get? x=some (PySem.W.instObj C dx)
 ns:h.Ns1 dx mA
 ne:dx≠x
theorem lookIn_ns {h:Heap} {dx:Addr} {mA:Str->Option Value} (n:h.Ns1 dx mA):∃ od,h.get? dx=some od/\∀ name,PySem.W.lookIn name od=some (mA name):=by
 obtain ⟨o,es,ep,ho,hd,hk,_,hm⟩:=n
 refine ⟨o,ho,fun name => ?_⟩
 have e:=hm name
 unfold nsFind findBy at e
 rw [<- Array.find?_toList] at e
 unfold PySem.W.lookIn
 rw [hd]
 dsimp only
 split
 ·rename_i y q
  rw [q] at e
  exact congrArg some e
 ·rename_i q
  rw [q] at e
  have a:es.toList.any (·.refKey)=false:=by
   rw [List.any_eq_false]
   intro y hy
   obtain ⟨z,t,hkey⟩:=hk y (Array.mem_toList_iff.mp hy)
   simp [DictEntry.refKey,hkey]
  have a':¬ es.toList.any (·.refKey)=true:=by rw [a]; exact Bool.false_ne_true
  rw [if_neg a']
  exact congrArg some e
theorem ObjM.look {h:Heap} {x dx C:Addr} {mA:Str->Option Value} (I:ObjM h x dx C mA):∃ od,PySem.W.InstAt h x (PySem.W.instObj C dx) C (some od)/\∀ name,PySem.W.lookIn name od=some (mA name) :=
 let ⟨od,ho,hl⟩:=lookIn_ns I.ns
 ⟨od,⟨I.obj,rfl,rfl,ho⟩,hl⟩
section
variable {prog:Program} {w:World} {A:Around} {E:Value->Shared->Prop} {s:Shared} {K:W.Frag} {x dx C f:Addr} {mA:Str->Option Value} {name:Str} {v:Value}
theorem get_map {expr:Bool} {Q:Value->Shared->Prop} (X:K.In s.heap) (I:ObjM s.heap x dx C mA) (hg:PySem.W.plainGet K C name=true) (hh:PySem.W.hasDictIn K C=true)
  (ha:PySem.W.findIn K (.ref C) name=some none) (hv:mA name=some v) (hv':PySem.W.handedIn v=true) (h:Q v { s with toks:=s.toks + 1 }) :
  wpAny (model prog w) A (getAttr (.ref x) name expr) Q E s:=by
 obtain ⟨od,J,hl⟩:=I.look
 exact PySem.W.get_value X J (PySem.W.plainGet_of hg).1 (PySem.W.findObj_own hh ha rfl (by rw [hl,hv])) hv' h
theorem get_meth {pl:Sem Bool} {Q:Value×List Value->Shared->Prop} (X:K.In s.heap) (I:ObjM s.heap x dx C mA) (hg:PySem.W.plainGet K C name=true)
  (hf:PySem.W.findIn K (.ref C) name=some (some (.ref f))) (ht:PySem.W.isFn K (.ref f)=true) (hv:mA name=none) (h:Q (.ref f,[.ref x]) s) :
  wpAny (model prog w) A (getMethod (.ref x) name pl) Q E s:=by
 obtain ⟨od,J,hl⟩:=I.look
 exact PySem.W.method_fn X J (PySem.W.plainGet_of hg).1 (PySem.W.plainGet_of hg).2 hf (beq_iff_eq.mp ht) (by show (PySem.W.lookIn name od).map (·.isSome)=some false; rw [hl,hv]; rfl) h
theorem set_map {ns:List Str} {Q:Unit->Shared->Prop} (X:K.In s.heap) (I:ObjM s.heap x dx C mA)
  (hs:PySem.W.findIn K (.ref C) "__setattr__" = some (some (.builtin "object.__setattr__"))) (hp:PySem.W.plainOver K C=true) (ht:PySem.W.takerIn K C name=some none) (hh:PySem.W.hasDictIn K C=true)
  (hw:PySem.Within mA ns) (hsz:ns.length<=sizeLine)
  (h:∀ h',ObjM h' x dx C (fun y=>if y=name then some v else mA y)->Heap.SameBut dx s.heap h'->Q () { s with heap:=h',toks:=s.toks + 2 }) :
  wpAny (model prog w) A (setAttr (.ref x) name v) Q E s:=by
 obtain ⟨od,J,hl⟩:=I.look
 refine PySem.W.set_plain X J hs (PySem.W.osa_open (s:={ s with toks:=s.toks + 1 }) (r:=none) X J hp ht fun b => ?_)
 obtain ⟨cd,hc,hd'⟩:=PySem.W.any_some hh
 have hx:s.heap.get? x=some ⟨.ref C,some dx,.plain,#[]⟩:=I.obj
 refine wpAny_bind (wpAny_pure (wpAny_bind (wpAny_bind (wpAny_loadPart hx (wpAny_bind (PySem.W.Looks.here (s:={ s with toks:=s.toks + 1 }) (PySem.W.looks_clsIn X hc) ?_))))))
 rw [hd']
 refine wpAny_pure (a:=some dx) (wpAny_bind (wpAny_pure (wpAny_bind ?_)))
 refine wpAny_nsSet1 (s:={ s with toks:=s.toks + 1 }) I.ns fun h' hn2 hs2 => ?_
 obtain ⟨oD,esD,epD,hoD,hdD,hcD⟩:=hn2.count (PySem.Within.cons name v hw)
 refine wpAny_bind (wpAny_lookBehind hoD (by rw [hdD]; exact pastItsLine_dict (Nat.le_trans hcD (by rw [List.length_cons]; omega))) ?_)
 exact wpAny_pure (h _ ⟨(hs2.2 _ (Ne.symm I.ne)).trans I.obj,hn2,I.ne⟩ hs2)
theorem make_map {R:Result->Shared->Prop} {vs:List Value} {kw:List (Str×Value)} (X:K.In s.heap) (hm:PySem.W.makesIn K C=true)
  (hi:PySem.W.findIn K (.ref C) "__init__" = some (some (.ref f))) (hf:PySem.W.typeIn K (.ref f)=some (.type "function"))
  (h:codeAny (model prog w) (A.under (.builtin "type.__call__" ⟨.ref C :: vs,kw⟩)) (.call (.ref f) ⟨.ref (s.heap.objs.size + 1) :: vs,kw⟩) (PySem.W.InitBack (s.heap.objs.size + 1) R)
   { s with heap:=(s.heap.push PySem.W.emptyDict).push (PySem.W.instObj C s.heap.objs.size) }) :
  codeAny (model prog w) A (.call (.ref C) ⟨vs,kw⟩) R s:=by
 obtain ⟨hh,g,d,t,os⟩:=s
 exact PySem.W.make_core (PySem.W.makes_of X hm) (PySem.W.looks_findIn X hi) (fun self=>PySem.W.bind_fn X self hf) (.inl rfl) h
end
noncomputable def putF (f:Str) (v:V):List (Str×V)->List (Str×V)
 | [] => [(f,v)]
 | (g,x) :: r=>if g=f then (g,v) :: r else (g,x) :: putF f v r
theorem zcX (f g:Str) (v:V):∀ fs:List (Str×V),(putF f v fs).lookup g=if g=f then some v else fs.lookup g
 | []=>by
  show List.lookup g [(f,v)]=_
  by_cases h:g=f
  ·have hb:(g == f)=true:=beq_iff_eq.mpr h
   simp only [List.lookup,hb,if_pos h]
  ·have hb:(g == f)=false:=beq_eq_false_iff_ne.mpr h
   simp only [List.lookup,hb,if_neg h]
 | (k,x) :: r=>by
  have ih:=zcX f g v r
  rw [show putF f v ((k,x) :: r)=(if k=f then (k,v) :: r else (k,x) :: putF f v r) from rfl]
  by_cases hk:k=f
  ·rw [if_pos hk]
   by_cases h:g=k
   ·have hb:(g == k)=true:=beq_iff_eq.mpr h
    simp only [List.lookup,hb,if_pos (h.trans hk)]
   ·have hb:(g == k)=false:=beq_eq_false_iff_ne.mpr h
    simp only [List.lookup,hb,if_neg (fun e:g=f=>h (e.trans hk.symm))]
  ·rw [if_neg hk]
   by_cases h:g=k
   ·have hb:(g == k)=true:=beq_iff_eq.mpr h
    simp only [List.lookup,hb,if_neg (fun e:g=f=>hk (h.symm.trans e))]
   ·have hb:(g == k)=false:=beq_eq_false_iff_ne.mpr h
    simp only [List.lookup,hb]
    exact ih
theorem zcZ (f:Str) (v:V):∀ fs:List (Str×V),f∈(putF f v fs).map (·.1)/\∀ g,g∈fs.map (·.1)->g∈(putF f v fs).map (·.1)
 | []=>⟨by simp [putF],fun g h=>by simp at h⟩
 | (k,x) :: r=>by
  obtain ⟨i1,i2⟩:=zcZ f v r
  rw [show putF f v ((k,x) :: r)=(if k=f then (k,v) :: r else (k,x) :: putF f v r) from rfl]
  by_cases hk:k=f
  ·rw [if_pos hk]
   subst hk
   exact ⟨by simp,fun g h=>by simpa using h⟩
  ·rw [if_neg hk]
   refine ⟨?_,fun g h => ?_⟩
   ·rw [List.map_cons]
    exact List.mem_cons_of_mem _ i1
   ·rw [List.map_cons] at h ⊢
    rcases List.mem_cons.mp h with e | e
    ·exact List.mem_cons.mpr (.inl e)
    ·exact List.mem_cons_of_mem _ (i2 g e)
theorem zcY (f:Str) (v:V):∀ fs:List (Str×V),(putF f v fs).length<=fs.length + 1
 | []=>by simp [putF]
 | (k,x) :: r=>by
  have ih:=zcY f v r
  rw [show putF f v ((k,x) :: r)=(if k=f then (k,v) :: r else (k,x) :: putF f v r) from rfl]
  by_cases hk:k=f
  ·rw [if_pos hk,List.length_cons,List.length_cons]; omega
  ·rw [if_neg hk,List.length_cons,List.length_cons]; omega
theorem RelO.some_of {v:V} {o:Option Value} (r:RelO (some v) o):∃ u,o=some u/\RelV v u:=by
 cases o with
 | none=>exact (show False from r).elim
 | some u=>exact ⟨u,rfl,r⟩
theorem RelO.none_of {o:Option Value} (r:RelO none o):o=none:=by
 cases o with
 | none=>rfl
 | some u=>exact (show False from r).elim
theorem handed_of {v:V} {u:Value} (r:RelV v u):PySem.W.handedIn u=true:=by
 cases v with
 | non=>cases (show u=Value.none from r); rfl
 | bl b=>cases (show u=Value.bool b from r); rfl
 | int i=>obtain ⟨t,e⟩:=(show ∃ t,u=Value.int i t from r); cases e; rfl
 | str x=>obtain ⟨t,e⟩:=(show ∃ t,u=Value.str x t from r); cases e; rfl
 | byt b=>obtain ⟨t,e⟩:=(show ∃ t,u=Value.bytes b t from r); cases e; rfl
 | flt b=>obtain ⟨t,e⟩:=(show ∃ t,u=Value.float b t from r); cases e; rfl
 | ref a=>cases (show u=Value.ref a from r); rfl
 | ty n=>cases (show u=Value.type n from r); rfl
section
variable {P:Program} {w:World} {H H':Hp} {h h':Heap} {a C dx:Addr} {fs fs':List (Str×V)}
theorem zdG (hok:HOk P w H h) (e:H a=some (.ins C dx fs)):∃ mA,ObjM h a dx C mA/\(∀ f,RelO (fs.lookup f) (mA f))/\PySem.Within mA (fs.map (·.1))/\fs.length<=1000/\H dx=some (.own a):=by
 obtain ⟨d,z,ne,ob,mA,n,r,q⟩:=(show ObjOk P w H h a (.ins C dx fs) from hok a _ e)
 exact ⟨mA,⟨ob,n,ne⟩,r,q,z,d⟩
end
structure Cls (K:W.Frag) (C:Addr):Prop where
 pg:PySem.W.plainGet K C Str.empty=true
 hd:PySem.W.hasDictIn K C=true
 po:PySem.W.plainOver K C=true
 sa:PySem.W.findIn K (.ref C) "__setattr__" = some (some (.builtin "object.__setattr__"))
theorem Cls.get {K:W.Frag} {C:Addr} (c:Cls K C) (f:Str):PySem.W.plainGet K C f=true:=c.pg
noncomputable def NoAttr (K:W.Frag) (C:Addr) (f:Str):Prop:=PySem.W.findIn K (.ref C) f=some none
theorem NoAttr.taker {K:W.Frag} {C:Addr} {f:Str} (n:NoAttr K C f):PySem.W.takerIn K C f=some none:=by
 unfold PySem.W.takerIn
 rw [show PySem.W.findIn K (.ref C) f=some none from n]
 rfl
structure Meth (K:W.Frag) (C:Addr) (m:Str) (f:Addr):Prop where
 at_:PySem.W.findIn K (.ref C) m=some (some (.ref f))
 fn:PySem.W.isFn K (.ref f)=true
 kp:PySem.W.keepIn K (.ref f)=true
section
variable {X:Cx} {pins:List (Addr×Obj)} {σ : St} {H:Hp} {s:Shared} {a C dx:Addr} {fs:List (Str×V)} {f:Str} {v:V} {A:Around} {E:Value->Shared->Prop}
theorem getattr_ok {b:Bool} {Q:Value->Shared->Prop} (I:Inv X pins σ H s) (e:H a=some (.ins C dx fs)) (c:Cls X.K C) (n:NoAttr X.K C f) (l:fs.lookup f=some v)
  (h:∀ u s',Inv X pins σ H s'->RelV v u->Q u s'):wpAny (model X.prog X.w) A (getAttr (.ref a) f b) Q E s:=by
 obtain ⟨mA,O,r,_,_,_⟩:=zdG I.hok e
 obtain ⟨u,hu,ru⟩:=RelO.some_of (v:=v) (o:=mA f) (by rw [<- l]; exact r f)
 exact get_map I.kIn O (c.get f) c.hd n hu (handed_of ru) (h u _ (I.tok _) ru)
theorem zdm {m:Str} {g:Addr} {pl:Sem Bool} {Q:Value×List Value->Shared->Prop} (I:Inv X pins σ H s) (e:H a=some (.ins C dx fs)) (c:Cls X.K C) (k:Meth X.K C m g) (l:fs.lookup m=none)
  (h:Q (.ref g,[.ref a]) s):wpAny (model X.prog X.w) A (getMethod (.ref a) m pl) Q E s:=by
 obtain ⟨mA,O,r,_,_,_⟩:=zdG I.hok e
 have hn:mA m=none:=RelO.none_of (by rw [<- l]; exact r m)
 exact get_meth I.kIn O (c.get m) k.at_ k.fn hn h
theorem setattr_ok {y:V} {u:Value} {Q:Unit->Shared->Prop} (I:Inv X pins σ H s) (e:H a=some (.ins C dx fs)) (c:Cls X.K C) (n:NoAttr X.K C f) (hl:fs.length < 1000) (ry:RelV y u)
  (h:∀ s',Inv X pins σ (upd H a (.ins C dx (putF f y fs))) s'->Q () s'):wpAny (model X.prog X.w) A (setAttr (.ref a) f u) Q E s:=by
 obtain ⟨mA,O,r,wi,_,ho⟩:=zdG I.hok e
 have hz:(fs.map (·.1)).length<=sizeLine:=by rw [List.length_map,sizeLine_eq]; omega
 refine set_map I.kIn O c.sa c.po n.taker c.hd wi hz fun h' O' sb=>h _ ?_
 have hd:∃ o,h'.get? dx=some o:=let ⟨o,_,_,e',_⟩:=O'.ns; ⟨o,e'⟩
 refine I.write (x:=a) (e:=dx) (by rw [e]; exact True.intro) (.inr ho) (fun b q hb z=>(sb.2 b hb).trans z) hd ?_
 refine ⟨by rw [zah O.ne]; exact ho,?_,O.ne,O'.obj,_,O'.ns,fun g => ?_,fun g hg => ?_⟩
 ·have:=zcY f y fs; omega
 ·show RelO ((putF f y fs).lookup g) (if g=f then some u else mA g)
  rw [zcX]
  by_cases q:g=f
  ·rw [if_pos q,if_pos q]; exact ry
  ·rw [if_neg q,if_neg q]; exact r g
 ·by_cases q:g=f
  ·rw [q]; exact (zcZ f y fs).1
  ·refine (zcZ f y fs).2 g (wi g fun z=>hg ?_)
   show (if g=f then some u else mA g)=none
   rw [if_neg q]; exact z
theorem Inv.made (I:Inv X pins σ H s):Inv X pins σ (upd (upd H s.heap.objs.size (.own (s.heap.objs.size + 1))) (s.heap.objs.size + 1) (.ins C s.heap.objs.size []))
  { s with heap:=(s.heap.push PySem.W.emptyDict).push (PySem.W.instObj C s.heap.objs.size) }:=by
 have e1:(s.heap.push PySem.W.emptyDict).get? s.heap.objs.size=some PySem.W.emptyDict:=Heap.get?_push_size s.heap rfl
 have e2:((s.heap.push PySem.W.emptyDict).push (PySem.W.instObj C s.heap.objs.size)).get? (s.heap.objs.size + 1)=some (PySem.W.instObj C s.heap.objs.size):=by
  have:=Heap.get?_push_size (s.heap.push PySem.W.emptyDict) (o:=PySem.W.instObj C s.heap.objs.size) rfl
  rwa [Heap.size_push] at this
 have e3:(s.heap.push PySem.W.emptyDict).Ns s.heap.objs.size (fun _=>none):=⟨PySem.W.emptyDict,#[],_,e1,rfl,(fun e he=>absurd he (by simp)),fun _=>rfl⟩
 have I1:=I.laid (a:=s.heap.objs.size) (o := .own (s.heap.objs.size + 1)) (h':=s.heap.push PySem.W.emptyDict) (t':=s.toks) (fun b u q=>Heap.get?_push_of_some _ q) (Nat.le_refl _) ⟨_,e1⟩
 refine I1.laid (a:=s.heap.objs.size + 1) (o := .ins C s.heap.objs.size []) (t':=s.toks) (fun b u q=>Heap.get?_push_of_some _ q) (Nat.le_of_eq (Heap.size_push _ _)) ?_
 have ne:s.heap.objs.size≠s.heap.objs.size + 1:=Nat.ne_of_lt (Nat.lt_succ_self _)
 refine ⟨by rw [zah ne,zac],Nat.zero_le _,ne,e2,fun _=>none,(Heap.Ns1.of_empty e3).at fun o q=>Heap.get?_push_of_some _ q,fun _=>True.intro,fun y hy=>absurd rfl hy⟩
theorem attr_of {prog:Program} {w:World} {env:Env} {e:Expr} {f:Str} {pos:Pos} {s:Shared} {Q:Value->Shared->Prop} (hb:attributeBase e f env (eval e env)=eval e env)
  (h:wpAny (model prog w) A (eval e env) (fun o s₁ => wpAny (model prog w) A (getAttr o f true) Q E s₁) E s):wpAny (model prog w) A (eval (.Attribute e f pos) env) Q E s :=
 Attribute_any_ h (by rw [arm_eval_Attribute,hb])
end
noncomputable def tFld (K:W.Frag) (ta:TE) (f:Str):TE:=fun σ H Q=>ta σ H fun x H1=>∃ a C dx fs v,x = .ref a/\H1 a=some (.ins C dx fs)/\Cls K C/\NoAttr K C f/\fs.lookup f=some v/\Q v H1
noncomputable def sFld (K:W.Frag) (ta tv:TE) (f:Str):TS:=fun D σ H=>tv σ H fun y H1=>ta σ H1 fun x H2=>∃ a C dx fs,x = .ref a/\H2 a=some (.ins C dx fs)/\Cls K C/\NoAttr K C f/\fs.length < 1000 /\
 D.nx σ (upd H2 a (.ins C dx (putF f y fs)))
section
variable {X:Cx} {o e value:Expr} {f:Str} {pos pos' tpos:Pos} {ta tv:TE}
theorem zbG (he:PE X e ta) (hb:attributeBase e f X.env (eval e X.env)=eval e X.env):PE X (.Attribute e f pos) (tFld X.K ta f):=by
 intro pins s σ H Q I h
 refine attr_of hb (thnE (he pins s σ H _ I h) fun u s1 x H1 I1 rx ⟨a,C,dx,fs,v,ex,ea,c,n,l,q⟩ => ?_)
 subst ex
 obtain rfl:u=Value.ref a:=rx
 exact getattr_ok I1 ea c n l fun u' s2 I2 ru=>⟨v,H1,I2,ru,q⟩
theorem zfx (ha:PE X o ta) (hv:PE X value tv) (hs:swapsWith value (some (.Attribute o f pos')) pos.line X.env=pure false):PS X (.Assign [.Attribute o f pos'] value pos) (sFld X.K ta tv f):=by
 intro pins s σ H D I h
 refine plainObj_wpAny_Assign_Attribute (thnE (hv pins s σ H _ I h) fun u s1 y H1 I1 ry q=>thnE (ha pins s1 σ H1 _ I1 q) fun ov s2 x H2 I2 rx ⟨a,C,dx,fs,ex,ea,c,n,l,q2⟩ => ?_) hs
 subst ex
 obtain rfl:ov=Value.ref a:=rx
 exact setattr_ok I2 ea c n l ry fun s3 I3=>⟨σ,_,I3,q2⟩
end
section
variable {X:Cx} {pins:List (Addr×Obj)} {σ : St} {H:Hp} {s:Shared} {A:Around} {E:Value->Shared->Prop} {Q:Value->Shared->Prop} {c:Value} {b:Bool}
inductive TyOf (K:W.Frag) (H:Hp):V->Value->Prop where
 | non:TyOf K H .non (.type "NoneType")
 | bl (x:Bool):TyOf K H (.bl x) (.type "bool")
 | int (i:Int):TyOf K H (.int i) (.type "int")
 | str (x:Str):TyOf K H (.str x) (.type "str")
 | flt (x:UInt64):TyOf K H (.flt x) (.type "float")
 | lst {a:Addr} {xs:List V} (e:H a=some (.lst xs)):TyOf K H (.ref a) (.type "list")
 | frz {a:Addr} {o:Obj} {xs:List V} (e:H a=some (.frz o (.lst xs))):TyOf K H (.ref a) (.type "list")
 | tup {a:Addr} {xs:List V} (e:H a=some (.tup xs)):TyOf K H (.ref a) (.type "tuple")
 | dK {a:Addr} {kvs:List (Key×V)} (e:H a=some (.dK kvs)):TyOf K H (.ref a) (.type "dict")
 | dT {a:Addr} {kvs:List (List Key×V)} (e:H a=some (.dT kvs)):TyOf K H (.ref a) (.type "dict")
 | ins {a C dx:Addr} {fs:List (Str×V)} (e:H a=some (.ins C dx fs)) (cl:Cls K C) (ha:PySem.W.findIn K (.ref C) "__class__" = some (some (.builtin "object.__class__")))
   (hn:PySem.W.specialIn K (.builtin "object.__class__") "__get__" = some (some (.builtin "getset_descriptor.__get__"))) (htk:PySem.W.takesIn K (.builtin "object.__class__")=some true)
   (hm:PySem.W.mroIn K C (.type "object")=some true):TyOf K H (.ref a) (.ref C)
theorem isinst_ok {x:V} {u t:Value} (I:Inv X pins σ H s) (rx:RelV x u) (ty:TyOf X.K H x t) (e:PySem.W.kitOne X.K t c=some b) (h:∀ tk,Q (.bool b) { s with toks:=tk }) :
  wpAny (model X.prog X.w) A (call (.builtin "isinstance") [u,c]) Q E s:=by
 cases ty with
 | non=>cases (show u=Value.none from rx); exact PySem.W.kia_one PySem.W.kitx_none I.kIn True.intro e (fun z=>nomatch z) h
 | bl y=>cases (show u=Value.bool y from rx); exact PySem.W.kia_one PySem.W.kitx_bool I.kIn True.intro e (fun z=>nomatch z) h
 | int i=>obtain ⟨t,q⟩:=(show ∃ t,u=Value.int i t from rx); cases q; exact PySem.W.kia_one PySem.W.kitx_int I.kIn True.intro e (fun z=>nomatch z) h
 | str y=>obtain ⟨t,q⟩:=(show ∃ t,u=Value.str y t from rx); cases q; exact PySem.W.kia_one PySem.W.kitx_str I.kIn True.intro e (fun z=>nomatch z) h
 | flt y=>obtain ⟨t,q⟩:=(show ∃ t,u=Value.float y t from rx); cases q; exact PySem.W.kia_one PySem.W.kitx_float I.kIn True.intro e (fun z=>nomatch z) h
 | @lst a xs ea =>
  cases (show u=Value.ref a from rx)
  obtain ⟨_,_,n,_,h1⟩:=(show ObjOk X.prog X.w H s.heap a (.lst xs) from I.hok a _ ea)
  exact PySem.W.kia_one PySem.W.kitx_list I.kIn ⟨_,h1,rfl⟩ e (fun z=>nomatch z) h
 | @frz a ob xs ea =>
  cases (show u=Value.ref a from rx)
  obtain ⟨_,_,_,n,_,h1⟩:=(show ObjOk X.prog X.w H s.heap a (.frz ob (.lst xs)) from I.hok a _ ea)
  exact PySem.W.kia_one PySem.W.kitx_list I.kIn ⟨_,h1,rfl⟩ e (fun z=>nomatch z) h
 | @tup a xs ea =>
  cases (show u=Value.ref a from rx)
  obtain ⟨_,_,_,p⟩:=(show ObjOk X.prog X.w H s.heap a (.tup xs) from I.hok a _ ea)
  obtain ⟨o,h1,h2,_⟩:=p
  exact PySem.W.kia_one PySem.W.kitx_tuple I.kIn ⟨o,h1,h2⟩ e (fun z=>nomatch z) h
 | @dK a kvs ea =>
  cases (show u=Value.ref a from rx)
  obtain ⟨_,_,vs,_,p⟩:=(show ObjOk X.prog X.w H s.heap a (.dK kvs) from I.hok a _ ea)
  obtain ⟨o,es,ep,h1,h2,_⟩:=p
  exact PySem.W.kia_one PySem.W.kitx_dict I.kIn ⟨o,h1,h2.1⟩ e (fun z=>nomatch z) h
 | @dT a kvs ea =>
  cases (show u=Value.ref a from rx)
  obtain ⟨_,_,xs,_,o,es,ep,h1,h2,_⟩:=(show ObjOk X.prog X.w H s.heap a (.dT kvs) from I.hok a _ ea)
  exact PySem.W.kia_one PySem.W.kitx_dict I.kIn ⟨o,h1,h2.1⟩ e (fun z=>nomatch z) h
 | @ins a C dx fs ea cl ha hn htk hm =>
  cases (show u=Value.ref a from rx)
  obtain ⟨mA,O,_⟩:=zdG I.hok ea
  obtain ⟨od,J,_⟩:=O.look
  exact PySem.W.kia_one (PySem.W.kitx_own (cl.get _) cl.hd ha hn htk hm) I.kIn J e (fun z=>nomatch z) h
end
structure Room (k:Nat) (A:Around):Prop where
 hd:A.handled=none
 dp:A.depth + 3 * k + 5 < recursionLimit
 un:A.units + 16 * k + 200 < cLine
theorem Room.mono {j k:Nat} {A:Around} (r:Room k A) (h:j<=k):Room j A:=⟨r.hd,by have:=r.dp; omega,by have:=r.un; omega⟩
theorem Room.deeper {k:Nat} {A:Around} (r:Room (k + 1) A) (env:Env):Room k (A.deeper env) :=
 ⟨r.hd,by have:=r.dp; show A.depth + 1 + 3 * k + 5 < _; omega,by have:=r.un; show A.units + 3 + 16 * k + 200 < _; omega⟩
theorem make_depth {A:Around} {C:Addr} {us:List Value} {kw:List (Str×Value)}:(A.under (.builtin "type.__call__" ⟨.ref C :: us,kw⟩)).depth=A.depth + 1:=by
 first | rfl | simp [Around.under,Code.weight,Code.isCreation,Code.isGuard,Code.isCaller,Code.frames,Code.isFrame,guardIds]
theorem make_units {A:Around} {C:Addr} {us:List Value} {kw:List (Str×Value)}:(A.under (.builtin "type.__call__" ⟨.ref C :: us,kw⟩)).units=A.units + 1:=by
 first | rfl | simp [Around.under,Code.cUnits,Code.frames,Code.isFrame]
theorem Room.make {k:Nat} {A:Around} (r:Room (k + 1) A) (C:Addr) (us:List Value) (kw:List (Str×Value)):Room k (A.under (.builtin "type.__call__" ⟨.ref C :: us,kw⟩)) :=
 ⟨r.hd,by have:=r.dp; rw [make_depth]; omega,by have:=r.un; rw [make_units]; omega⟩
theorem Room.depth {k:Nat} {A:Around} (r:Room k A):A.depth < recursionLimit:=by have:=r.dp; omega
theorem Room.units {k:Nat} {A:Around} (r:Room k A):A.units + 64 < cLine:=by have:=r.un; omega
noncomputable def tNil:TA:=fun _ H Q=>Q [] H
noncomputable def tCons (ta:TE) (tr:TA):TA:=fun σ H Q=>ta σ H fun x H1=>tr σ H1 fun xs H2=>Q (x :: xs) H2
section
variable {X:Cx} {e:Expr} {es:List Expr} {te:TE} {t:TA} {pos:Pos}
theorem zae:PA X [] tNil:=fun _ _ _ _ H Q I h=>Calls.spliced_nil ⟨[],H,I,.nil,h⟩
theorem zaa (ha:PE X e te) (hr:PA X es t) (hs:starEach (e :: es) X.env=(false,eval e X.env) :: starEach es X.env:=by rfl):PA X (e :: es) (tCons te t):=by
 intro pos pins s σ H Q I h
 rw [hs]
 show wpAny _ _ (spliced ((false,eval e X.env) :: backTo pos (starEach es X.env))) _ _ s
 refine Calls.spliced_cons (thnE (ha pins s σ H _ I h) fun u s1 x H1 I1 r1 q1 => ?_)
 exact thnE (hr pos pins s1 σ H1 _ I1 q1) fun us s2 xs H2 I2 r2 q2=>⟨x :: xs,H2,I2,.cons r1 r2,q2⟩
noncomputable def tTup (t:TA):TE:=fun σ H Q=>t σ H fun xs H1=>xs.length<=sizeLine/\∀ p,H1 p=none->Q (.ref p) (upd H1 p (.tup xs))
noncomputable def tLst (t:TA):TE:=fun σ H Q=>t σ H fun xs H1=>xs.length<=sizeLine/\∀ p,H1 p=none->Q (.ref p) (upd H1 p (.lst xs))
theorem zbA {x1} (h:PA X es t):PE X (.Tuple es x1 pos) (tTup t):=by
 intro pins s σ H Q I hq
 refine wpAny_Tuple_spliced (thnE (h pos pins s σ H _ I hq) fun us s1 xs H1 I1 r ⟨z,q⟩=>⟨by rw [<- r.length]; exact z,?_⟩)
 have hf:H1 s1.heap.objs.size=none:=I1.hok.fresh (Nat.le_refl _)
 refine ⟨.ref s1.heap.objs.size,upd H1 s1.heap.objs.size (.tup xs),I1.laid (t':=s1.toks) (fun b u e=>Heap.get?_push_of_some _ e) (Nat.le_refl _) ?_,rfl,q _ hf⟩
 exact ⟨z,us,r,⟨_,Heap.get?_push_size _ rfl,rfl,_,rfl⟩⟩
theorem zaP (h:PA X es t):PE X (.List es pos) (tLst t):=by
 intro pins s σ H Q I hq
 refine wpAny_List_spliced (thnE (h pos pins s σ H _ I hq) fun us s1 xs H1 I1 r ⟨z,q⟩=>⟨by rw [<- r.length]; exact z,?_⟩)
 have hf:H1 s1.heap.objs.size=none:=I1.hok.fresh (Nat.le_refl _)
 refine ⟨.ref s1.heap.objs.size,upd H1 s1.heap.objs.size (.lst xs),I1.laid (t':=s1.toks) (fun b u e=>Heap.get?_push_of_some _ e) (Nat.le_refl _) ?_,rfl,q _ hf⟩
 exact ⟨z,us,0,r,Heap.get?_push_size _ rfl⟩
end
noncomputable abbrev Sp:=List V->Hp->VK->XK->Prop
noncomputable abbrev CXT:=List Env->Hp->Shared->XK->Value->Shared->Prop
structure Env0 (P:Program) (w:World) (K:W.Frag) (mg:Str->Option Value) (base:Heap) (A:Around) (outer:List Env) (s:Shared) (H:Hp):Prop where
 frames:A.frames=some outer
 mod:Mod K mg base
 bs:∀ b o,base.get? b=some o->s.heap.get? b=some o/\H b=none
 bsz:base.objs.size<=s.heap.objs.size
 funs:s.heap.FunFrames base outer
 frf:∀ b∈frs outer,H b=none
 hok:HOk P w H s.heap
 bare:AllBare s.gens
noncomputable def CE (outer:List Env) (P:Program) (w:World) (H:Hp) (s:Shared) (Q:VK) (u:Value) (s':Shared):Prop :=
 ∃ v H',s'.os=s.os/\AllBare s'.gens/\Un (frs outer) [] H H' s.heap s'.heap/\HOk P w H' s'.heap/\RelV v u/\Q v H'
noncomputable def CR (CX:CXT) (outer:List Env) (P:Program) (w:World) (H:Hp) (s:Shared) (Q:VK) (E:XK) (r:Result) (s':Shared):Prop :=
 match r with
 | .ok (.ret u)=>CE outer P w H s Q u s'
 | .ok _=>False
 | .error e=>CX outer H s E e s'
structure FnOk (P:Program) (w:World) (K:W.Frag) (mg:Str->Option Value) (base:Heap) (CX:CXT) (k:Nat) (f:Addr) (fd:FuncData) (ps:List Str) (sp:Sp):Prop where
 len:∀ vs H Q E,sp vs H Q E->vs.length=ps.length
 run:∀ (A:Around) (outer:List Env) (s:Shared) (H:Hp) (args:Args) (us:List Value) (vs:List V) (Q:VK) (E:XK),Room k A->Env0 P w K mg base A outer s H->BindsTo s fd args (ps.zip us)->Vals vs us->sp vs H Q E ->
  codeAny (model P w) A (.call (.ref f) args) (CR CX outer P w H s Q E) s
theorem Env0.make {P:Program} {w:World} {K:W.Frag} {mg:Str->Option Value} {base:Heap} {A:Around} {outer:List Env} {s:Shared} {H:Hp} (e:Env0 P w K mg base A outer s H) (C:Addr) (us:List Value) (kw:List (Str×Value)) :
  Env0 P w K mg base (A.under (.builtin "type.__call__" ⟨.ref C :: us,kw⟩)) outer s H:=⟨by first | exact e.frames | (simpa [Around.under,Code.envs,Code.isFrame,pushEnvs] using e.frames),e.mod,e.bs,e.bsz,e.funs,e.frf,e.hok,e.bare⟩
section
variable {X:Cx} {pins:List (Addr×Obj)} {σ : St} {H:Hp} {s s':Shared}
theorem Inv.env0 (I:Inv X pins σ H s):Env0 X.prog X.w X.K X.mg X.base X.A X.stack s H :=
 ⟨I.ok.frames,I.ok.mod,I.bs,Nat.le_trans I.ok.bsz I.sz,I.stack,I.stkFree,I.hok,I.bare⟩
theorem Inv.after {Q:VK} {u:Value} (I:Inv X pins σ H s) (h:CE X.stack X.prog X.w H s Q u s'):EP X pins σ Q u s':=by
 obtain ⟨v,H',os,bare,un,hok,r,q⟩:=h
 obtain ⟨hh,g,d,t,os'⟩:=s'
 obtain rfl:os'=s.os:=os
 exact ⟨v,H',I.call (h':=hh) (g':=g) (d':=d) (t':=t) (ch := []) un hok bare (fun b z=>absurd z (by simp)),r,q⟩
end
noncomputable def tCall (sp:Sp) (dvs:List V) (E:XK) (t:TA):TE:=fun σ H Q=>t σ H fun vs H1=>sp (vs ++ dvs) H1 Q E
noncomputable def tMeth (C:Addr) (m:Str) (sp:Sp) (dvs:List V) (E:XK) (ta:TE) (t:TA):TE:=fun σ H Q=>ta σ H fun x H1=>∃ a dx fs,x = .ref a/\H1 a=some (.ins C dx fs)/\fs.lookup m=none /\
 t σ H1 fun vs H2=>sp (x :: (vs ++ dvs)) H2 Q E
noncomputable def tMake (C:Addr) (sp:Sp) (dvs:List V) (E:XK) (t:TA):TE:=fun σ H Q=>t σ H fun vs H1=>∀ x dx,H1 x=none->H1 dx=none->dx≠x ->
 sp (.ref x :: (vs ++ dvs)) (upd (upd H1 dx (.own x)) x (.ins C dx [])) (fun v H2=>v = .non/\Q (.ref x) H2) E
noncomputable def Binds (K:W.Frag) (fd:FuncData) (ps:List Str) (ds:List Value):Prop :=
 ∀ (s:Shared) (us:List Value),K.In s.heap->(us ++ ds).length=ps.length->BindsTo s fd ⟨us,[]⟩ (ps.zip (us ++ ds))
theorem Binds.all {K:W.Frag} {fd:FuncData} {ps:List Str} (h:∀ us:List Value,us.length=ps.length->bindArgs fd ⟨us,[]⟩=pure (ps.zip us)):Binds K fd ps []:=fun s us _ hl=>by
 rw [List.append_nil] at hl ⊢
 exact .of_eq (h us hl)
noncomputable def Passes (CX:CXT) (X:Cx) (E:XK):Prop:=∀ (pins:List (Addr×Obj)) (σ : St) (H:Hp) (s:Shared) (e:Value) (s':Shared),Inv X pins σ H s->CX X.stack H s E e s'->X.xe e s'
section
variable {X:Cx} {CX:CXT} {k:Nat} {f C:Addr} {fd:FuncData} {ps:List Str} {sp:Sp} {dvs:List V} {ds:List Value} {E:XK} {x m:Str} {p pos apos:Pos} {e o:Expr} {es:List Expr} {ta:TE} {t:TA}
theorem zfu {pins:List (Addr×Obj)} {σ : St} {H:Hp} {s:Shared} {Q:VK} {us:List Value} {vs:List V} (F:FnOk X.prog X.w X.K X.mg X.base CX k f fd ps sp) (hr:Room k X.A) (hb:Binds X.K fd ps ds) (hd:Vals dvs ds) (hx:Passes CX X E)
  (I:Inv X pins σ H s) (r:Vals vs us) (h:sp (vs ++ dvs) H Q E):wpAny (model X.prog X.w) X.A (call (.ref f) us) (EP X pins σ Q) X.xe s:=by
 have r2:Vals (vs ++ dvs) (us ++ ds):=r.append hd
 have hl:(us ++ ds).length=ps.length:=by rw [<- r2.length]; exact F.len _ _ _ _ h
 refine wpAny_call (codeAny_mono (F.run X.A X.stack s H ⟨us,[]⟩ (us ++ ds) (vs ++ dvs) Q E hr I.env0 (hb s us I.kIn hl) r2 h) fun r s' hq => ?_)
 cases r with
 | error e=>exact hx pins σ H s e s' I hq
 | ok fl =>
  cases fl with
  | ret u=>exact I.after hq
  | next=>exact False.elim hq
  | brk=>exact False.elim hq
  | cont=>exact False.elim hq
theorem zfE (F:FnOk X.prog X.w X.K X.mg X.base CX k f fd ps sp) (hr:Room k X.A) (hg:Gl X x) (hm:X.mg x=some (.ref f)) (hk:PySem.W.keepIn X.K (.ref f)=true) (hb:Binds X.K fd ps ds) (hd:Vals dvs ds) (hx:Passes CX X E)
  (ha:PA X (e :: es) t) (hdb:(x == ("__debug__" : Str))=false:=by decide) (he:starEach (e :: es) X.env=(false,eval e X.env) :: starEach es X.env:=by rfl) (hpl:(backTo pos (starEach es X.env)).any (·.1)=false:=by rfl) :
  PE X (.Call (.Name x p) (e :: es) [] pos) (tCall sp dvs E t):=by
 intro pins s σ H Q I h
 refine wpAny_Call_Name_kw (zdE I hg hm ?_ hdb)
 refine PySem.W.callWith_K (h₀ := X.base) I.ok.mod.kin hk (thnE (ha pos pins s σ H _ I h) fun us s1 vs H1 I1 r q=>⟨I1.kIn,?_⟩) he hpl
 exact zfu F hr hb hd hx I1 r q
theorem pe_meth {pl:Sem Bool} (he:PE X o ta) (c:Cls X.K C) (hm:Meth X.K C m f) (F:FnOk X.prog X.w X.K X.mg X.base CX k f fd ps sp) (hr:Room k X.A) (hb:Binds X.K fd ps ds) (hd:Vals dvs ds) (hx:Passes CX X E) (ha:PA X (e :: es) t)
  (hst:starEach (e :: es) X.env=(false,eval e X.env) :: starEach es X.env:=by rfl) (hpl:(backTo pos (starEach es X.env)).any (·.1)=false:=by rfl)
  (ht:eval (.Call (.Attribute o m apos) (e :: es) [] pos) X.env=(do
   let ov <- eval o X.env
   standAt apos.atName
   let (f,first) <- holding [ov] (getMethod ov m pl)
   callWith pos f first (backTo pos (starEach (e :: es) X.env)) (backToKw pos (keywordEach [] X.env))):=by rfl) :
  PE X (.Call (.Attribute o m apos) (e :: es) [] pos) (tMeth C m sp dvs E ta t):=by
 intro pins s σ H Q I h
 refine PySem.W.methodCall_KW (pl:=pl) (thnE (he pins s σ H _ I h) fun u s1 x H1 I1 rx ⟨a,dx,fs,ex,ea,l,q⟩ => ?_) ht
 subst ex
 obtain rfl:u=Value.ref a:=rx
 refine zdm I1 ea c hm l ?_
 refine PySem.W.callWith_K (first := [.ref a]) (h₀ := X.base) I.ok.mod.kin hm.kp (thnE (ha pos pins s1 σ H1 _ I1 q) fun us s2 vs H2 I2 r q2=>⟨I2.kIn,?_⟩) hst hpl
 exact zfu (us := .ref a :: us) (vs := .ref a :: vs) F hr hb hd hx I2 (.cons rfl r) q2
theorem pe_meth0 {pl:Sem Bool} (he:PE X o ta) (c:Cls X.K C) (hm:Meth X.K C m f) (F:FnOk X.prog X.w X.K X.mg X.base CX k f fd ps sp) (hr:Room k X.A) (hb:Binds X.K fd ps ds) (hd:Vals dvs ds) (hx:Passes CX X E)
  (ht:eval (.Call (.Attribute o m apos) [] [] pos) X.env=(do
   let ov <- eval o X.env
   standAt apos.atName
   let (f,first) <- holding [ov] (getMethod ov m pl)
   callWith pos f first (backTo pos (starEach [] X.env)) (backToKw pos (keywordEach [] X.env))):=by rfl) :
  PE X (.Call (.Attribute o m apos) [] [] pos) (tMeth C m sp dvs E ta tNil):=by
 intro pins s σ H Q I h
 refine PySem.W.methodCall_KW (pl:=pl) (thnE (he pins s σ H _ I h) fun u s1 x H1 I1 rx ⟨a,dx,fs,ex,ea,l,q⟩ => ?_) ht
 subst ex
 obtain rfl:u=Value.ref a:=rx
 refine zdm I1 ea c hm l ?_
 exact PySem.W.callWith_K0 (first := [.ref a]) I1.kIn hm.kp (zfu (us := [.ref a]) (vs := [.ref a]) F hr hb hd hx I1 (.cons rfl .nil) q)
structure Mk (K:W.Frag) (C f:Addr):Prop where
 makes:PySem.W.makesIn K C=true
 init:PySem.W.findIn K (.ref C) "__init__" = some (some (.ref f))
 fn:PySem.W.isFn K (.ref f)=true
 kp:PySem.W.keepIn K (.ref C)=true
theorem run_make {pins:List (Addr×Obj)} {σ : St} {H:Hp} {s:Shared} {Q:VK} {us:List Value} {vs:List V} (M:Mk X.K C f) (F:FnOk X.prog X.w X.K X.mg X.base CX k f fd ps sp) (hr:Room (k + 1) X.A) (hb:Binds X.K fd ps ds) (hd:Vals dvs ds)
  (hx:Passes CX X E) (I:Inv X pins σ H s) (r:Vals vs us)
  (h:∀ x dx,H x=none->H dx=none->dx≠x->sp (.ref x :: (vs ++ dvs)) (upd (upd H dx (.own x)) x (.ins C dx [])) (fun v H2=>v = .non/\Q (.ref x) H2) E) :
  wpAny (model X.prog X.w) X.A (call (.ref C) us) (EP X pins σ Q) X.xe s:=by
 have hq:=h (s.heap.objs.size + 1) s.heap.objs.size (I.hok.fresh (Nat.le_succ _)) (I.hok.fresh (Nat.le_refl _)) (Nat.ne_of_lt (Nat.lt_succ_self _))
 have I2:=Inv.made (C:=C) I
 have r2:Vals (V.ref (s.heap.objs.size + 1) :: (vs ++ dvs)) (Value.ref (s.heap.objs.size + 1) :: (us ++ ds)) := .cons rfl (r.append hd)
 have hl:(Value.ref (s.heap.objs.size + 1) :: us ++ ds).length=ps.length:=by
  have e:=r2.length
  rw [F.len _ _ _ _ hq] at e
  exact e.symm
 refine wpAny_call (make_map (f:=f) I.kIn M.makes M.init (beq_iff_eq.mp M.fn) (codeAny_mono (F.run _ X.stack _ _ ⟨Value.ref (s.heap.objs.size + 1) :: us,[]⟩ (Value.ref (s.heap.objs.size + 1) :: (us ++ ds)) _ _ E (hr.make C us [])
  (I2.env0.make C us []) (hb _ (Value.ref (s.heap.objs.size + 1) :: us) I2.kIn hl) r2 hq) fun r s' hq' => ?_))
 cases r with
 | error e=>exact hx pins σ _ _ e s' I2 hq'
 | ok fl =>
  cases fl with
  | ret u =>
   obtain ⟨v,H',I3,rv,ev,q3⟩:=I2.after hq'
   subst ev
   exact ⟨rv,⟨V.ref (s.heap.objs.size + 1),H',I3,rfl,q3⟩⟩
  | next=>exact False.elim hq'
  | brk=>exact False.elim hq'
  | cont=>exact False.elim hq'
theorem pe_make0 (M:Mk X.K C f) (F:FnOk X.prog X.w X.K X.mg X.base CX k f fd ps sp) (hr:Room (k + 1) X.A) (hg:Gl X x) (hm:X.mg x=some (.ref C)) (hb:Binds X.K fd ps ds) (hd:Vals dvs ds) (hx:Passes CX X E)
  (hdb:(x == ("__debug__" : Str))=false:=by decide):PE X (.Call (.Name x p) [] [] pos) (tMake C sp dvs E tNil):=by
 intro pins s σ H Q I h
 refine wpAny_Call_Name_kw (zdE I hg hm ?_ hdb)
 exact PySem.W.callWith_K0 I.kIn M.kp (run_make (us := []) M F hr hb hd hx I .nil h)
end
section
variable {X:Cx} {CX:CXT} {k:Nat} {f C:Addr} {fd:FuncData} {ps ks:List Str} {sp:Sp} {E:XK} {x m:Str} {p pos apos kpos:Pos} {e o:Expr} {es:List Expr} {kws:List Keyword} {te ta:TE} {t tk:TA} {nm:Option Str}
variable {g:List Value->List Value->List Value} {gV:List V->List V->List V}
end
structure FnScope (N P:List Str) (sc:Scope):Prop where
 kind:sc.kind = .function
 co:sc.isCoroutine=false
 gen:sc.isGenerator=false
 nd:N.Nodup
 pre:N.take P.length=P
 par:∀ x∈P,sc.names.lookup x=some .local\/sc.names.lookup x=some .cell
 nofree:∀ y∈sc.names,y.2 ≠ .free
theorem zed {kindOf:Str->Option NameKind} {x:Str}:∀ {binds:List (Str×Value)} {m:Str->Option Value},(∀ v,(x,v) ∉ binds)->bindL kindOf binds m x=m x
 | [],_,_=>rfl
 | (n,v) :: r,m,h=>by
  unfold bindL
  rw [zed fun w hw=>h w (List.mem_cons_of_mem _ hw)]
  split
  ·have:x≠n:=by rintro rfl; exact h v List.mem_cons_self
   simp [this]
  ·rfl
theorem zef {kindOf:Str->Option NameKind} {x:Str}:∀ {binds:List (Str×Value)} {m:Str->Option Value},(∀ v,(x,v) ∉ binds)->bindC kindOf binds m x=m x
 | [],_,_=>rfl
 | (n,v) :: r,m,h=>by
  unfold bindC
  rw [zef fun w hw=>h w (List.mem_cons_of_mem _ hw)]
  split
  ·rfl
  ·have:x≠n:=by rintro rfl; exact h v List.mem_cons_self
   simp [this]
theorem zee {kindOf:Str->Option NameKind} {x:Str} {v:Value}:∀ {P:List Str} {vs:List Value} {i:Nat} {m:Str->Option Value},P.Nodup->P[i]?=some x->vs[i]?=some v->kindOf x=some .local ->
  bindL kindOf (P.zip vs) m x=some v
 | [],_,_,_,_,h,_,_=>by simp at h
 | _ :: _,[],_,_,_,_,h,_=>by simp at h
 | p :: P,w :: vs,0,m,nd,h1,h2,hk=>by
  simp at h1 h2; subst h1; subst h2
  show bindL kindOf ((p,w) :: P.zip vs) m p=_
  unfold bindL
  rw [zed fun v hv=>(List.nodup_cons.mp nd).1 (List.of_mem_zip hv).1,if_pos hk]
  simp
 | p :: P,w :: vs,i + 1,m,nd,h1,h2,hk=>by
  show bindL kindOf ((p,w) :: P.zip vs) m x=_
  unfold bindL
  exact zee (i:=i) (List.nodup_cons.mp nd).2 (by simpa using h1) (by simpa using h2) hk
theorem zeg {kindOf:Str->Option NameKind} {x:Str} {v:Value}:∀ {P:List Str} {vs:List Value} {i:Nat} {m:Str->Option Value},P.Nodup->P[i]?=some x->vs[i]?=some v->kindOf x≠some .local ->
  bindC kindOf (P.zip vs) m x=some v
 | [],_,_,_,_,h,_,_=>by simp at h
 | _ :: _,[],_,_,_,_,h,_=>by simp at h
 | p :: P,w :: vs,0,m,nd,h1,h2,hk=>by
  simp at h1 h2; subst h1; subst h2
  show bindC kindOf ((p,w) :: P.zip vs) m p=_
  unfold bindC
  rw [zef fun v hv=>(List.nodup_cons.mp nd).1 (List.of_mem_zip hv).1,if_neg hk]
  simp
 | p :: P,w :: vs,i + 1,m,nd,h1,h2,hk=>by
  show bindC kindOf ((p,w) :: P.zip vs) m x=_
  unfold bindC
  exact zeg (i:=i) (List.nodup_cons.mp nd).2 (by simpa using h1) (by simpa using h2) hk
noncomputable def start (N:List Str) (vs:List V):St:=vs.map some ++ List.replicate (N.length - vs.length) none
noncomputable def cxOf (CX:CXT) (P:Program) (w:World) (K:W.Frag) (mg:Str->Option Value) (base:Heap) (N:List Str) (qual:Str) (scope:Scope) (f:Addr) (cd:Value) (A:Around) (outer:List Env) (s:Shared) (H:Hp) (E:XK):Cx where
 prog:=P
 w:=w
 K:=K
 mg:=mg
 base:=base
 A:=A.deeper (envOfC qual scope s.heap.objs.size f cd)
 N:=N
 s₀ := s
 H₀ := H
 env:=envOfC qual scope s.heap.objs.size f cd
 outer:=outer
 stack:=envOfC qual scope s.heap.objs.size f cd :: outer
 ex := []
 calm:=true
 fn:=fun _=>true
 pn := []
 xe:=fun e s'=>wpAny (model P w) (A.deeper (envOfC qual scope s.heap.objs.size f cd)) (leaving (envOfC qual scope s.heap.objs.size f cd) e) (fun _ s''=>CX outer H s E e s'') (fun e' s''=>CX outer H s E e' s'') s'
theorem ze9 {sc:Scope} {n:Nat} {x:Str} (h:sc.names.lookup x=some .cell):∃ c,(cellsFrom n sc.names []).lookup x=some c:=by
 have q:=PySem.W.cellsFrom_some sc.names n [] (.inl h)
 exact Option.isSome_iff_exists.mp q
theorem inv_start {CX:CXT} {P:Program} {w:World} {K:W.Frag} {mg:Str->Option Value} {base:Heap} {N ps:List Str} {qual:Str} {scope:Scope} {f:Addr} {cd:Value} {A:Around} {outer:List Env} {s s1:Shared} {H:Hp} {E:XK} {us:List Value} {vs:List V}
  (S:FnScope N ps scope) (hd:A.handled=none) (e0:Env0 P w K mg base A outer s H) (hl:vs.length=ps.length) (r:Vals vs us)
  (x:InCallC s s.heap.objs.size (bindL (envOfC qual scope s.heap.objs.size f cd).kindOf (ps.zip us) fun _=>none) (cellsFrom (s.heap.objs.size + 1) scope.names []) (bindC (envOfC qual scope s.heap.objs.size f cd).kindOf (ps.zip us) fun _=>none) s1) :
  Inv (cxOf CX P w K mg base N qual scope f cd A outer s H E) [] (start N vs) H s1:=by
 have hpl:ps.length<=N.length:=by have:=congrArg List.length S.pre; rw [List.length_take] at this; omega
 obtain ⟨h1,tk,rfl,hk⟩:=x.done
 have noA:∀ b:Addr,b ∉ (cxOf CX P w K mg base N qual scope f cd A outer s H E).ex:=fun b z=>absurd (show b∈([]:List Addr) from z) (by simp)
 refine ⟨⟨e0.mod,S.kind,rfl,rfl,Nat.le_refl _,fun y z c h1 h2 => ?_,fun y hy => ?_,fun y c _ h => ?_,fun _=>hd,Around.frames_deeper e0.frames,.inr ⟨rfl,rfl⟩,fun b z=>absurd z (noA b),e0.bs,e0.bsz,fun b _ _=>noA b,fun b z=>absurd z (noA b),e0.funs,e0.frf⟩,
  rfl,e0.bare,Un.kept hk,⟨_,x.toInCall.ns,fun i y v h1 h2 h3 => ?_⟩,fun y c h=>⟨_,x.cell y c h⟩,e0.hok.fresh (Nat.le_refl _),fun y c h => ?_,fun p hp=>absurd (show p∈([]:List (Addr×Obj)) from hp) (by simp),e0.hok.kept hk,?_⟩
 ·exact name_of_addr x.apart (PySem.mem_of_lookup h1) (PySem.mem_of_lookup h2)
 ·have hy:scope.names.lookup y=some .cell\/scope.names.lookup y=some .free:=hy
  rcases hy with hy | hy
  ·exact ze9 hy
  ·exact absurd rfl (S.nofree _ (PySem.mem_of_lookup hy))
 ·exact Nat.le_of_lt (x.above y c (PySem.mem_of_lookup h))
 ·have hi:i < vs.length:=by
   unfold start at h2
   by_cases hi:i < vs.length
   ·exact hi
   ·rw [List.getElem?_append_right (by simpa using hi)] at h2
    rw [List.getElem?_replicate] at h2
    split at h2 <;> cases h2
  have ha:vs[i]?=some v:=by
   unfold start at h2
   rw [List.getElem?_append_left (by simpa using hi),List.getElem?_map] at h2
   cases e:vs[i]? with
   | none=>rw [e] at h2; cases h2
   | some a=>rw [e] at h2; cases h2; rfl
  obtain ⟨u,hu,rv⟩:=r.get ha
  have hp:ps[i]?=some y:=by
   rw [<- S.pre,List.getElem?_take_of_lt (by omega)]; exact h1
  have ndP:ps.Nodup:=by rw [<- S.pre]; exact S.nd.sublist (List.take_sublist _ _)
  refine ⟨u,rv,?_⟩
  rcases S.par y (List.mem_of_getElem? hp) with k | k
  ·exact .inl ⟨k,zee ndP hp hu k⟩
  ·obtain ⟨c,e⟩:=ze9 (n:=s.heap.objs.size + 1) k
   refine .inr ⟨.inl k,c,e,?_⟩
   have q:=x.cell y c e
   rw [zeg ndP hp hu (by show scope.names.lookup y≠_; rw [k]; decide)] at q
   exact q
 ·exact e0.hok.fresh (Nat.le_of_lt (x.above y c (PySem.mem_of_lookup h)))
 ·unfold start
  show _=N.length
  rw [List.length_append,List.length_map,List.length_replicate]
  omega
theorem zgF {CX:CXT} {P:Program} {w:World} {K:W.Frag} {mg:Str->Option Value} {base:Heap} {k:Nat} {f:Addr} {name qual:Str} {params:Arguments} {body:List Stmt} {scope:Scope} {dV kV doc pm cdv ct oc:Value} {an od:Option Addr}
  {osl:Array (Option Value)} {N ps:List Str} {sp:Sp} (lk:K.lookup f=some ⟨oc,od,.func (PySem.W.fnOf name qual params body scope dV kV doc pm an cdv ct),osl⟩) (hcd:PySem.W.codeIn K cdv qual=true) (S:FnScope N ps scope)
  (len:∀ vs H Q E,sp vs H Q E->vs.length=ps.length)
  (hbody:∀ (A:Around) (outer:List Env) (s:Shared) (H:Hp) (vs:List V) (Q:VK) (E:XK),Room k (A.deeper (envOfC qual scope s.heap.objs.size f cdv))->sp vs H Q E ->
   ∃ t,PSs (cxOf CX P w K mg base N qual scope f cdv A outer s H E) body t/\t { nx:=fun _ H'=>Q .non H',rt:=Q } (start N vs) H) :
  FnOk P w K mg base CX (k + 1) f (PySem.W.fnOf name qual params body scope dV kV doc pm an cdv ct) ps sp:=by
 refine ⟨len,fun A outer s H args us vs Q E hr e0 hb r hsp => ?_⟩
 have hl:=len _ _ _ _ hsp
 have KX:K.In s.heap:=e0.mod.kin.keeps fun b o e=>(e0.bs b o e).1
 have lim:s.heap.NoLimit:=e0.mod.nolimit.keeps fun b o e=>(e0.bs b o e).1
 have hkind:∀ y∈ps.zip us,scope.names.lookup y.1=some .local\/(scope.names.lookup y.1=some .cell/\((cellsFrom (s.heap.objs.size + 1) scope.names []).lookup y.1).isSome=true):=fun ⟨n,v⟩ hy=>by
  rcases S.par n (List.of_mem_zip hy).1 with q | q
  ·exact .inl q
  ·exact .inr ⟨q,PySem.W.cellsFrom_some _ _ _ (.inl q)⟩
 refine codeAny_call_function hr.depth (KX _ _ lk) rfl S.co S.gen rfl (PySem.W.codeRec_of KX hcd) (hb _ _ _ _ ?_)
 refine wpAny_newFunctionEnv_cells S.kind hkind fun env he s1 x => ?_
 subst he
 refine ⟨lim.keeps x.toInCall.keep,codeAny_func ?_⟩
 obtain ⟨t,ht,hq⟩:=hbody A outer s H vs Q E (hr.deeper _) hsp
 have I:Inv (cxOf CX P w K mg base N qual scope f cdv A outer s H E) [] (start N vs) H s1:=inv_start S hr.hd e0 hl r x
 refine wpAny_mono (ht [] s1 (start N vs) H _ I hq) (fun fl s' hs => ?_) fun e s' hs=>hs
 have fin:∀ {σ':St} {H':Hp} {v:V} {u:Value},Inv (cxOf CX P w K mg base N qual scope f cdv A outer s H E) [] σ' H' s'->RelV v u->Q v H'->CE outer P w H s Q u s' :=
  fun {σ' H' v u} J rv q=>⟨v,H',J.os,J.bare,J.base,J.hok,rv,q⟩
 cases fl with
 | ret u =>
  obtain ⟨v,σ',H',J,rv,q⟩:=hs
  exact fin J rv q
 | next =>
  obtain ⟨σ',H',J,q⟩:=hs
  exact fin (v:=V.non) (u:=Value.none) J rfl q
 | brk =>
  obtain ⟨_,_,_,q⟩:=hs
  exact False.elim q
 | cont =>
  obtain ⟨_,_,_,q⟩:=hs
  exact False.elim q
section
variable {X:Cx} {x:Str} {p pos:Pos} {e:Expr} {es:List Expr} {t:TA} {id T:String} {r:List V->Hp->VK->Prop}
noncomputable def tCB (r:List V->Hp->VK->Prop) (t:TA):TE:=fun σ H Q=>t σ H fun vs H1=>r vs H1 Q
theorem zak (hc:CallR X (.builtin id) r) (hg:Gl X x) (hm:X.mg x=none) (hv:bootBuiltins x=some (.builtin id)) (ha:PA X (e :: es) t) (hn:x ≠ "__name__" := by decide) (hdb:(x == ("__debug__" : Str))=false:=by decide)
  (he:starEach (e :: es) X.env=(false,eval e X.env) :: starEach es X.env:=by rfl) (hpl:(backTo pos (starEach es X.env)).any (·.1)=false:=by rfl):PE X (.Call (.Name x p) (e :: es) [] pos) (tCB r t):=by
 intro pins s σ H Q I h
 refine wpAny_Call_Name_kw (ze1 I hg hm hv ?_ hn hdb)
 exact PyProof.Rows.callWith_builtin1 (thnE (ha pos pins s σ H _ I h) fun us s1 vs H1 I1 r1 q1=>hc pins s1 σ H1 vs us Q I1 r1 q1) he hpl
theorem zaZ (hc:CallR X (.type T) r) (hg:Gl X x) (hm:X.mg x=none) (hv:bootBuiltins x=some (.type T)) (ha:PA X (e :: es) t) (hn:x ≠ "__name__" := by decide) (hdb:(x == ("__debug__" : Str))=false:=by decide)
  (he:starEach (e :: es) X.env=(false,eval e X.env) :: starEach es X.env:=by rfl) (hpl:(backTo pos (starEach es X.env)).any (·.1)=false:=by rfl):PE X (.Call (.Name x p) (e :: es) [] pos) (tCB r t):=by
 intro pins s σ H Q I h
 refine wpAny_Call_Name_kw (ze1 I hg hm hv ?_ hn hdb)
 exact PyProof.Rows.callWith_type1 (thnE (ha pos pins s σ H _ I h) fun us s1 vs H1 I1 r1 q1=>hc pins s1 σ H1 vs us Q I1 r1 q1) he hpl
end
end L2
namespace HT
open PySem PyProof.Rows
section
open PySem.SeqAt
open PySem.AutoSeq1 (wpAny_loadPart')
open PySem.MeetsSeq PySem.MeetsSeq2 PySem.MeetsSeq3
end
section
variable {prog:Program} {w:World} {A:Around} {E:Value->Shared->Prop} {s:Shared}
end
end HT
namespace L2
open PySem PySem.Spec PyProof.Rows
noncomputable abbrev TO:=St->Hp->(Option Int->Hp->Prop)->Prop
section
variable {X:Cx} {e:Expr} {te:TE} {lo hi:Option Expr} {tl th:TO} {pos p2:Pos}
end
noncomputable def ixN (n:Nat) (i:Int):Option Nat:=if 0<=i then (if i < n then some i.toNat else none) else if -(n:Int)<=i then some (i + n).toNat else none
noncomputable def atI {α : Type} (xs:List α) (i:Int):Option α := (ixN xs.length i).bind fun j=>xs[j]?
theorem ixN_seq {n:Nat} {i:Int} {j:Nat} (h:ixN n i=some j):seqIndex? i n=some j/\j < n /\ -(n:Int)<=i/\i < n:=by
 unfold ixN at h
 by_cases h0:0<=i
 ·rw [if_pos h0] at h
  by_cases h1:i < n
  ·rw [if_pos h1] at h
   have e:i.toNat=j:=Option.some.inj h
   exact ⟨by rw [seqIndex_of h0 h1,e],by omega,by omega,h1⟩
  ·rw [if_neg h1] at h; cases h
 ·rw [if_neg h0] at h
  by_cases h1 : -(n:Int)<=i
  ·rw [if_pos h1] at h
   have e:(i + n).toNat=j:=Option.some.inj h
   exact ⟨by rw [seqIndex_neg (by omega) h1,e],by omega,h1,by omega⟩
  ·rw [if_neg h1] at h; cases h
theorem zew {α : Type} {xs:List α} {i:Int} {v : α} (h:atI xs i=some v):∃ j,seqIndex? i xs.length=some j/\xs[j]?=some v/\j < xs.length /\ -(xs.length:Int)<=i/\i < xs.length:=by
 unfold atI at h
 cases e:ixN xs.length i with
 | none=>rw [e] at h; cases h
 | some j =>
  rw [e] at h
  obtain ⟨h1,h2,h3,h4⟩:=ixN_seq e
  exact ⟨j,h1,h,h2,h3,h4⟩
theorem zaH {α : Type} {xs:List α} {j:Nat} {v : α} (h:xs[j]?=some v):atI xs (j:Int)=some v:=by
 have hj:j < xs.length:=(List.getElem?_eq_some_iff.mp h).1
 have e:ixN xs.length (j:Int)=some j:=by
  unfold ixN
  rw [if_pos (by omega),if_pos (by omega)]; simp
 unfold atI; rw [e]; exact h
theorem atI_last {α : Type} (xs:List α) (v : α):atI (xs ++ [v]) (-1)=some v:=by
 have hl:(xs ++ [v]).length=xs.length + 1:=by simp
 have e:ixN (xs ++ [v]).length (-1)=some xs.length:=by
  unfold ixN
  rw [hl,if_neg (by decide),if_pos (by omega)]
  congr 1
  omega
 unfold atI
 rw [e]
 show (xs ++ [v])[xs.length]?=some v
 simp
noncomputable def PlainIx (b:Expr):Prop:=∀ o i,subscripted b false o i=operate [o,i] (getItem o i)
noncomputable def IxR (X:Cx) (r:R2):Prop :=
 ∀ (value slice:Expr) (pins:List (Addr×Obj)) (s:Shared) (σ : St) (H:Hp) (x y:V) (v u:Value) (Q:VK),Inv X pins σ H s->RelV x v->RelV y u->r x y H Q ->
  subscripted slice false v u=operate [v,u] (getItem v u)->wpAny (model X.prog X.w) X.A (subscriptTail value slice v u) (EP X pins σ Q) X.xe s
noncomputable def MtR (X:Cx) (id:String) (r:V->List V->Hp->VK->Prop):Prop :=
 ∀ (pins:List (Addr×Obj)) (s:Shared) (σ : St) (H:Hp) (x:V) (xs:List V) (v:Value) (us:List Value) (Q:VK),Inv X pins σ H s->RelV x v->Vals xs us->r x xs H Q ->
  wpAny (model X.prog X.w) X.A (call (.builtin id) (v :: us)) (EP X pins σ Q) X.xe s
section
variable {X:Cx} {a b:Expr} {ta tb:TE} {pos:Pos}
theorem zau {r:R2} (hr:IxR X r) (ha:PE X a ta) (hb:PE X b tb) (hs:PlainIx b):PE X (.Subscript a b pos) (tOp r ta tb):=by
 intro pins s σ H Q I h
 exact Subscript_ (binT ha hb I h fun v u s2 x y H2 I2 rx ry q=>hr a b pins s2 σ H2 x y v u Q I2 rx ry q (hs _ _))
noncomputable def rIxL (K:W.Frag):R2:=fun x y H Q=>∃ p xs i v,x = .ref p/\y = .int i/\SqL K H p xs/\atI xs i=some v/\Q v H
noncomputable def rIxT (K:W.Frag):R2:=fun x y H Q=>∃ p xs i v,x = .ref p/\y = .int i/\SqT K H p xs/\atI xs i=some v/\Q v H
noncomputable def rIxS:R2:=fun x y H Q=>∃ z i c,x = .str z/\y = .int i/\z.length<=sizeLine/\atI z.cps.toList i=some c/\Q (.str ⟨#[c]⟩) H
theorem zaD:IxR X (rIxL X.K):=by
 intro value slice pins s σ H x y v u Q I rx ry h hs
 obtain ⟨p,xs,i,z,rfl,rfl,hq,he,q⟩:=h
 cases rx
 obtain ⟨t,rfl⟩:=ry
 obtain ⟨its,r,pl,hz⟩:=I.list hq
 obtain ⟨j,h1,h2,h3,h4,h5⟩:=zew he
 obtain ⟨w,ew,rw'⟩:=r.get h2
 have hl:=r.length
 have hn:=zd4
 have fin:EP X pins σ Q w s:=⟨z,H,I,rw',q⟩
 by_cases h0:0<=i
 ·have hj:i.toNat=j:=by
   rw [seqIndex_of h0 h5] at h1
   exact Option.some.inj h1
  exact item_listR pl.isList h0 (by omega) (by rw [hj]; simpa using ew) fin hs
 ·have hj:(i + (its.toArray.size:Int)).toNat=j:=by
   rw [seqIndex_neg (by omega) h4] at h1
   rw [List.size_toArray,<- hl]
   exact Option.some.inj h1
  exact subscriptTail_builtinR (x:=w) pl.isList.typeIs slot_list_getitem.lookup
   (wpAny_getItem_list_neg (Q:=fun r s'=>r=w/\EP X pins σ Q r s') pl.isList (by omega) (by rw [List.size_toArray] <;> omega) (by omega) (by rw [hj]; simpa using ew) ⟨rfl,fin⟩) hs
theorem zaB:IxR X (rIxT X.K):=by
 intro value slice pins s σ H x y v u Q I rx ry h hs
 obtain ⟨p,xs,i,z,rfl,rfl,hq,he,q⟩:=h
 cases rx
 obtain ⟨t,rfl⟩:=ry
 obtain ⟨its,r,pl,hz⟩:=I.tuple hq
 obtain ⟨j,h1,h2,h3,h4,h5⟩:=zew he
 obtain ⟨w,ew,rw'⟩:=r.get h2
 have hl:=r.length
 have hn:=zd4
 have fin:EP X pins σ Q w s:=⟨z,H,I,rw',q⟩
 exact subscriptTail_builtinR (x:=w) pl.typeIs slot_tuple_getitem.lookup
  (getItem_tuple (j:=j) (Q:=fun r s'=>r=w/\EP X pins σ Q r s') pl (by omega) (by omega) (by rw [List.size_toArray,<- hl]; exact h1) (by simpa using ew) ⟨rfl,fin⟩) hs
theorem ix_str:IxR X rIxS:=by
 intro value slice pins s σ H x y v u Q I rx ry h hs
 obtain ⟨z,i,c,rfl,rfl,hz,he,q⟩:=h
 obtain ⟨t,rfl⟩:=rx
 obtain ⟨t',rfl⟩:=ry
 obtain ⟨j,h1,h2,h3,h4,h5⟩:=zew he
 have hl:z.cps.toList.length=z.length:=by simp [Str.length]
 rw [hl] at h1 h4 h5
 have hn:=zd4
 exact tail_any (typeIs_str s z t) slot_str_getitem.lookup (getItem_str (c:=c) (by
  have e1:decide (i < -(2 ^ 63:Int))=false:=decide_eq_false (by omega)
  have e2:decide (i>=2 ^ 63)=false:=decide_eq_false (by omega)
  rw [e1,e2,Bool.or_false]) (by rw [h1]; simpa using h2) ⟨.str ⟨#[c]⟩,H,I.tok _,⟨_,rfl⟩,q⟩) hs
noncomputable def flatV:V->Bool
 | .non=>true
 | .bl _=>true
 | .int _=>true
 | .str _=>true
 | _=>false
noncomputable def eqV:V->V->Bool
 | .non,.non=>true
 | .bl a,.bl b=>a == b
 | .bl a,.int b=>(if a then 1 else 0) == b
 | .int a,.bl b=>a == (if b then 1 else 0)
 | .int a,.int b=>a == b
 | .str a,.str b=>a == b
 | _,_=>false
theorem eqAt_V {A:Around} {s:Shared} {y x:V} {u v:Value} (ry:RelV y u) (rx:RelV x v) (fy:flatV y=true) (fx:flatV x=true):SeqAt.EqAt A s u v (eqV y x):=by
 cases y with
 | non =>
  cases ry
  cases x with
  | non=>cases rx; exact SeqAt.EqAt.same _
  | bl b=>cases rx; exact SeqAt.EqAt.none_bool b
  | int b=>obtain ⟨t,rfl⟩:=rx; exact SeqAt.EqAt.none_int b t
  | str b=>obtain ⟨t,rfl⟩:=rx; exact SeqAt.EqAt.none_str b t
  | _=>exact absurd (show false=true from fx) Bool.false_ne_true
 | bl a =>
  cases ry
  cases x with
  | non=>cases rx; exact SeqAt.EqAt.bool_none a
  | bl b=>cases rx; exact SeqAt.EqAt.bool_bool a b
  | int b=>obtain ⟨t,rfl⟩:=rx; exact SeqAt.EqAt.bool_int a b t
  | str b=>obtain ⟨t,rfl⟩:=rx; exact SeqAt.EqAt.bool_str a b t
  | _=>exact absurd (show false=true from fx) Bool.false_ne_true
 | int a =>
  obtain ⟨t',rfl⟩:=ry
  cases x with
  | non=>cases rx; exact SeqAt.EqAt.int_none a t'
  | bl b=>cases rx; exact SeqAt.EqAt.int_bool a t' b
  | int b=>obtain ⟨t,rfl⟩:=rx; exact SeqAt.EqAt.int_int a t' b t
  | str b=>obtain ⟨t,rfl⟩:=rx; exact SeqAt.EqAt.int_str a t' b t
  | _=>exact absurd (show false=true from fx) Bool.false_ne_true
 | str a =>
  obtain ⟨t',rfl⟩:=ry
  cases x with
  | non=>cases rx; exact SeqAt.EqAt.str_none a t'
  | bl b=>cases rx; exact SeqAt.EqAt.str_bool a t' b
  | int b=>obtain ⟨t,rfl⟩:=rx; exact SeqAt.EqAt.str_int a t' b t
  | str b=>obtain ⟨t,rfl⟩:=rx; exact SeqAt.EqAt.str_str a t' b t
  | _=>exact absurd (show false=true from fx) Bool.false_ne_true
 | _=>exact absurd (show false=true from fy) Bool.false_ne_true
noncomputable def eqU (x:V) (u:Value):Bool:=match u with
 | .none=>eqV .non x
 | .bool b=>eqV (.bl b) x
 | .int i _=>eqV (.int i) x
 | .str z _=>eqV (.str z) x
 | _=>false
theorem zgn {x y:V} {u:Value} (r:RelV y u) (f:flatV y=true):eqU x u=eqV y x:=by
 cases y with
 | non=>cases r; rfl
 | bl b=>cases r; rfl
 | int i=>obtain ⟨t,rfl⟩:=r; rfl
 | str z=>obtain ⟨t,rfl⟩:=r; rfl
 | _=>exact absurd (show false=true from f) Bool.false_ne_true
theorem zc3 {x:V}:∀ {xs:List V} {us:List Value},Vals xs us->xs.all flatV=true->us.any (eqU x)=xs.any fun y=>eqV y x
 | _,_,.nil,_=>rfl
 | y :: xs,u :: us,.cons r t,f=>by
  rw [List.all_cons,Bool.and_eq_true] at f
  rw [List.any_cons,List.any_cons,zgn r f.1,zc3 t f.2]
theorem zcg {A:Around} {s:Shared} {x:V} {v:Value} (rx:RelV x v) (fx:flatV x=true):∀ {xs:List V} {us:List Value},Vals xs us->xs.all flatV=true->∀ u∈us,SeqAt.EqAt A s u v (eqU x u)
 | _,_,.nil,_=>fun u hu=>by cases hu
 | y :: xs,u :: us,.cons r t,f=>fun u' hu=>by
  rw [List.all_cons,Bool.and_eq_true] at f
  rcases List.mem_cons.mp hu with rfl | hu
  ·rw [zgn r f.1]; exact eqAt_V r rx f.1 fx
  ·exact zcg rx fx t f.2 u' hu
noncomputable def inV (x:V) (xs:List V):Bool:=xs.any fun y=>eqV y x
noncomputable def rIn (K:W.Frag) (neg:Bool):R2:=fun x y H Q=>∃ p xs,y = .ref p/\(SqL K H p xs\/SqT K H p xs)/\flatV x=true/\xs.all flatV=true/\Q (.bl (if neg then !inV x xs else inV x xs)) H
theorem zcT:OpR X (compareOp .In) (rIn X.K false):=by
 intro pins s σ H x y v u Q I rx ry h
 obtain ⟨p,xs,rfl,hq,fx,fs,q⟩:=h
 cases ry
 rcases hq with hq | hq
 ·obtain ⟨its,r,pl,hz⟩:=I.list hq
  refine SeqAt.in_listAt (eqU x) pl.isList (fun w hw=>zcg rx fx r fs w (by simpa using hw)) ⟨.bl _,H,I,rfl,?_⟩
  rw [show its.toArray.any (eqU x)=its.any (eqU x) by simp,zc3 r fs]
  exact q
 ·obtain ⟨its,r,pl,hz⟩:=I.tuple hq
  refine SeqAt.in_tupleAt (eqU x) pl (fun w hw=>zcg rx fx r fs w (by simpa using hw)) ⟨.bl _,H,I,rfl,?_⟩
  rw [show its.toArray.any (eqU x)=its.any (eqU x) by simp,zc3 r fs]
  exact q
theorem zbJ:OpR X (compareOp .NotIn) (rIn X.K true):=by
 intro pins s σ H x y v u Q I rx ry h
 obtain ⟨p,xs,rfl,hq,fx,fs,q⟩:=h
 cases ry
 rcases hq with hq | hq
 ·obtain ⟨its,r,pl,hz⟩:=I.list hq
  refine SeqAt.notIn_listAt (eqU x) pl.isList (fun w hw=>zcg rx fx r fs w (by simpa using hw)) ⟨.bl _,H,I,rfl,?_⟩
  rw [show its.toArray.any (eqU x)=its.any (eqU x) by simp,zc3 r fs]
  exact q
 ·obtain ⟨its,r,pl,hz⟩:=I.tuple hq
  refine SeqAt.notIn_tupleAt (eqU x) pl (fun w hw=>zcg rx fx r fs w (by simpa using hw)) ⟨.bl _,H,I,rfl,?_⟩
  rw [show its.toArray.any (eqU x)=its.any (eqU x) by simp,zc3 r fs]
  exact q
theorem zao:CallR X (.builtin "len") (fun xs H Q=>∃ p ys,xs = [.ref p]/\(SqL X.K H p ys\/SqT X.K H p ys)/\Q (.int ys.length) H):=by
 intro pins s σ H xs us Q I r h
 obtain ⟨p,ys,rfl,hq,q⟩:=h
 obtain ⟨u,rfl,rx⟩:=zbq r
 cases rx
 have hn:=zd4
 rcases hq with hq | hq
 ·obtain ⟨its,r',pl,hz⟩:=I.list hq
  have hlen:=r'.length
  exact Calls.call_len_list pl.isList (by simp only [List.size_toArray] <;> omega) ⟨.int ys.length,H,I.tok _,⟨s.toks + 1,by rw [List.size_toArray,hlen]⟩,q⟩
 ·obtain ⟨its,r',pl,hz⟩:=I.tuple hq
  have hlen:=r'.length
  exact len_tuple pl (by simp only [List.size_toArray] <;> omega) ⟨.int ys.length,H,I.tok _,⟨s.toks + 1,by rw [List.size_toArray,hlen]⟩,q⟩
theorem call_len_str:CallR X (.builtin "len") (fun xs H Q=>∃ z,xs = [.str z]/\z.length<=sizeLine/\Q (.int z.length) H):=by
 intro pins s σ H xs us Q I r h
 obtain ⟨z,rfl,hz,q⟩:=h
 obtain ⟨u,rfl,t,rfl⟩:=zbq r
 have hn:=zd4
 exact len_str (by omega) ⟨.int z.length,H,I.tok _,⟨_,rfl⟩,q⟩
theorem zbK:CallR X (.type "list") (fun xs H Q=>∃ p ys,xs = [.ref p]/\(SqL X.K H p ys\/SqT X.K H p ys)/\∀ l,H l=none->Q (.ref l) (upd H l (.lst ys))):=by
 intro pins s σ H xs us Q I r h
 obtain ⟨p,ys,rfl,hq,q⟩:=h
 obtain ⟨u,rfl,rx⟩:=zbq r
 cases rx
 have fin:∀ (its:List Value),Vals ys its->ys.length<=sizeLine->∀ (h':Heap) (c':Nat),(∀ b o',s.heap.get? b=some o'->h'.get? b=some o') ->
   h'.get? s.heap.objs.size=some { cls := .type "list",dict:=none,data := .seq its.toArray c',slots := #[] }->EP X pins σ Q (.ref s.heap.objs.size) { s with heap:=h' }:=fun its r' hz h' c' kp e =>
  ⟨.ref s.heap.objs.size,_,I.laid (t':=s.toks) kp (Nat.le_refl _) (show ObjOk X.prog X.w _ h' _ (.lst ys) from ⟨hz,its,c',r',e⟩),rfl,q _ (I.hok.fresh (Nat.le_refl _))⟩
 rcases hq with hq | hq
 ·obtain ⟨its,r',pl,hz⟩:=I.list hq
  have hlen:=r'.length
  obtain ⟨o,ho,hc,n,hd⟩:=pl.isList
  exact call_list_seq p (.inl rfl) ho hc hd (fun h' c' kp e=>fin its r' hz h' c' kp e) (by simp only [List.size_toArray] <;> omega)
 ·obtain ⟨its,r',pl,hz⟩:=I.tuple hq
  have hlen:=r'.length
  obtain ⟨o,ho,hc,n,hd⟩:=pl
  exact call_list_seq p (.inr rfl) ho hc hd (fun h' c' kp e=>fin its r' hz h' c' kp e) (by simp only [List.size_toArray] <;> omega)
theorem call_tuple_of:CallR X (.type "tuple") (fun xs H Q=>∃ p ys,xs = [.ref p]/\((SqL X.K H p ys/\∀ l,H l=none->Q (.ref l) (upd H l (.tup ys)))\/(SqT X.K H p ys/\Q (.ref p) H))):=by
 intro pins s σ H xs us Q I r h
 obtain ⟨p,ys,rfl,h⟩:=h
 obtain ⟨u,rfl,rx⟩:=zbq r
 cases rx
 rcases h with ⟨hq,q⟩ | ⟨hq,q⟩
 ·obtain ⟨its,r',pl,hz⟩:=I.list hq
  have hlen:=r'.length
  refine call_tuple_list pl.isList (fun h' kp => ?_) (by simp only [List.size_toArray] <;> omega)
  have I1:Inv X pins σ H { s with heap:=h' }:=I.kept (t':=s.toks) kp
  have I2:Inv X pins σ (upd H h'.objs.size (.tup ys)) { s with heap:=h'.push { cls := .type "tuple",data := .seq its.toArray } } :=
   I1.laid (t':=s.toks) (fun b o e=>Heap.get?_push_of_some _ e) (Nat.le_refl _) (show ObjOk X.prog X.w _ _ _ (.tup ys) from ⟨hz,its,r',IsTup.new _ _⟩)
  exact ⟨.ref h'.objs.size,_,I2,rfl,q _ (I1.hok.fresh (Nat.le_refl _))⟩
 ·obtain ⟨its,r',pl,hz⟩:=I.tuple hq
  exact call_tuple_same pl ⟨.ref p,H,I,rfl,q⟩
noncomputable def tyV (K:W.Frag) (T:String) (x:V) (H:Hp):Prop:=match x with
 | .str _=>T = "str"
 | .int _=>T = "int"
 | .ref p=>(T = "list" /\ ∃ xs,SqL K H p xs)\/(T = "tuple" /\ ∃ o,K.lookup p=some o/\o.cls = .type "tuple" /\ o.dict=none) \/
   (T = "dict" /\ ((∃ kvs,H p=some (.dK kvs))\/∃ kvs,H p=some (.dT kvs)))\/(T = "set" /\ ∃ S n,H p=some (.set S n))
 | _=>False
theorem zf9 {pins:List (Addr×Obj)} {σ : St} {H:Hp} {s:Shared} {T:String} {x:V} {v:Value} (I:Inv X pins σ H s) (r:RelV x v) (ty:tyV X.K T x H) :
  s.TypeIs v T/\∀ a,v = .ref a->∃ ob,s.heap.get? a=some ob/\ob.dict=none:=by
 cases x with
 | str z =>
  obtain ⟨t,rfl⟩:=r
  cases (show T = "str" from ty)
  exact ⟨typeIs_str s z t,fun _ e=>nomatch e⟩
 | int i =>
  obtain ⟨t,rfl⟩:=r
  cases (show T = "int" from ty)
  exact ⟨typeIs_int s i t,fun _ e=>nomatch e⟩
 | ref p =>
  cases r
  rcases ty with ⟨rfl,xs,hq⟩ | ⟨rfl,o,hk,hc,hd⟩ | ⟨rfl,hk⟩ | ⟨rfl,S,n,hk⟩
  ·obtain ⟨its,_,pl,_⟩:=I.list hq
   refine ⟨pl.isList.typeIs,fun a e => ?_⟩
   cases e
   obtain ⟨o,n,e,c,hd,_⟩:=pl
   exact ⟨o,e,hd⟩
  ·refine ⟨⟨o,I.kIn p o hk,hc⟩,fun a e => ?_⟩
   cases e
   exact ⟨o,I.kIn _ o hk,hd⟩
  ·have z:∃ o,s.heap.get? p=some o/\o.ExactDict:=by
    rcases hk with ⟨kvs,hk⟩ | ⟨kvs,hk⟩
    ·obtain ⟨_,_,_,_,o,_,_,e,ex,_⟩:=I.hok p _ hk
     exact ⟨o,e,ex⟩
    ·obtain ⟨_,_,_,_,o,_,_,e,ex,_⟩:=I.hok p _ hk
     exact ⟨o,e,ex⟩
   obtain ⟨o,e,ex⟩:=z
   refine ⟨⟨o,e,ex.1⟩,fun a e2 => ?_⟩
   cases e2
   exact ⟨o,e,ex.2.1⟩
  ·obtain ⟨o,_,_,_,e,ex,_⟩:=I.hok p _ hk
   refine ⟨⟨o,e,ex.1⟩,fun a e2 => ?_⟩
   cases e2
   exact ⟨o,e,ex.2.1⟩
 | _=>exact False.elim ty
noncomputable def tBM0 (K:W.Frag) (T:String) (r:V->List V->Hp->VK->Prop) (to:TE):TE:=fun σ H Q=>to σ H fun x H1=>tyV K T x H1/\r x [] H1 Q
noncomputable def tBM (K:W.Frag) (T:String) (r:V->List V->Hp->VK->Prop) (to:TE) (t:TA):TE:=fun σ H Q=>to σ H fun x H1=>tyV K T x H1/\t σ H1 fun xs H2=>r x xs H2 Q
variable {o e:Expr} {es:List Expr} {to:TE} {t:TA} {name:Str} {apos cpos:Pos} {T id:String} {r:V->List V->Hp->VK->Prop}
theorem pe_bm0 (pa:PlainAttrs T) (slot:Slot T name id) (hty:typeOf (.builtin id)=pure (.type "method_descriptor")) (hm:MtR X id r) (ho:PE X o to)
  (hbase:attributeBase o name X.env (eval o X.env)=eval o X.env:=by rfl) (hline:(apos.endLine == cpos.line)=true:=by rfl):PE X (.Call (.Attribute o name apos) [] [] cpos) (tBM0 X.K T r to):=by
 intro pins s σ H Q I h
 refine wpAny_Call_method0_late hbase hline (thnE (ho pins s σ H _ I h) fun v s1 x H1 I1 r1 ⟨ty,q1⟩ => ?_)
 obtain ⟨h1,h2⟩:=zf9 I1 r1 ty
 exact ⟨T,id,pa,slot,hty,h1,h2,Calls.callWith_builtin rfl (PySem.evalArgs_none (hm pins s1 σ H1 x [] v [] Q I1 r1 .nil q1))⟩
theorem zc5 (pa:PlainAttrs T) (slot:Slot T name id) (hty:typeOf (.builtin id)=pure (.type "method_descriptor")) (hm:MtR X id r) (ho:PE X o to) (ha:PA X (e :: es) t)
  (hbase:attributeBase o name X.env (eval o X.env)=eval o X.env:=by rfl)
  (hfew:((backTo cpos (starEach (e :: es) X.env)).all (fun x => !x.1) && (backToKw cpos (keywordEach [] X.env)).all (fun x=>x.1.isSome)
   && decide ((e :: es).length + ([]:List Keyword).length + (if ([]:List Keyword).isEmpty then 0 else 1) < 30))=true:=by rfl)
  (hline:(apos.endLine == cpos.line)=true:=by rfl) (hs:starEach (e :: es) X.env=(false,eval e X.env) :: starEach es X.env:=by rfl) (hplain:(backTo cpos (starEach es X.env)).any (·.1)=false:=by rfl) :
  PE X (.Call (.Attribute o name apos) (e :: es) [] cpos) (tBM X.K T r to t):=by
 intro pins s σ H Q I h
 refine wpAny_Call_method_late hbase hfew hline rfl (thnE (ho pins s σ H _ I h) fun v s1 x H1 I1 r1 ⟨ty,q1⟩ => ?_)
 obtain ⟨h1,h2⟩:=zf9 I1 r1 ty
 refine ⟨T,id,pa,slot,hty,h1,h2,?_⟩
 have hA:=ha cpos pins s1 σ H1 _ I1 q1
 rw [hs] at hA ⊢
 refine Calls.callWith_builtin (by show (false || (backTo cpos (starEach es X.env)).any (·.1))=false; rw [hplain] <;> rfl) (Calls.evalArgs_plain ?_)
 exact thn hA fun us s2 ⟨vs,H2,I2,r2,q2⟩=>hm pins s2 σ H2 x vs v us Q I2 r1 r2 q2
end
noncomputable def MtM (X:Cx) (id:String) (r:V->List V->Hp->VK->Prop):Prop :=
 ∀ (pins:List (Addr×Obj)) (s:Shared) (σ : St) (H:Hp) (x:V) (xs:List V) (v:Value) (us:List Value) (Q:VK),Inv X pins σ H s->RelV x v->Vals xs us->r x xs H Q ->
  wpAny (model X.prog X.w) X.A (call (.builtin id) (v :: us)) (EP X pins σ Q) X.xe s
theorem Vals.one:∀ {x:V} {us:List Value},Vals [x] us->∃ u,us = [u]/\RelV x u
 | _,_,.cons r .nil=>⟨_,rfl,r⟩
theorem Vals.zero:∀ {us:List Value},Vals [] us->us = []
 | _,.nil=>rfl
theorem Vals.dropLast {xs:List V} {us:List Value} (h:Vals xs us):Vals xs.dropLast us.dropLast:=by
 induction h with
 | nil=>exact .nil
 | cons r t ih =>
  cases t with
  | nil=>exact .nil
  | cons q t'=>exact .cons r ih
theorem erase_last {α : Type} (l:List α):l.eraseIdx (l.length - 1)=l.dropLast:=by
 induction l with
 | nil=>rfl
 | cons a r ih =>
  cases r with
  | nil=>rfl
  | cons b r =>
   have e:(a :: b :: r).length - 1=((b :: r).length - 1) + 1:=by
    have h1:(a :: b :: r).length=r.length + 2:=rfl
    have h2:(b :: r).length=r.length + 1:=rfl
    omega
   rw [e,List.eraseIdx_cons_succ,ih]
   all_goals rfl
section
variable {X:Cx} {pins:List (Addr×Obj)} {σ : St} {H:Hp} {s:Shared} {l b:Addr} {xs ys zs:List V}
theorem Inv.lset {its its':List Value} {n:Nat} {f:Array Value->Array Value} {t':Nat} (I:Inv X pins σ H s) (hH:H l=some (.lst xs))
  (e:s.heap.get? l=some { cls := .type "list",data := .seq its.toArray n }) (hf:f its.toArray=its'.toArray) (hv:Vals ys its') (hz:ys.length<=sizeLine) :
  Inv X pins σ (upd H l (.lst ys)) { s with heap:=s.heap.update l (Obj.mapSeq f),toks:=t' }:=by
 have q:=PySem.IsL.update e f
 rw [hf] at q
 refine I.write (x:=l) (e:=l) (by rw [hH]; exact trivial) (.inl rfl) (fun b' u hb hu=>(Heap.get?_update_other s.heap (Obj.mapSeq f) (Ne.symm hb)).trans hu) ⟨_,q⟩ ?_
 exact ⟨hz,its',_,hv,q⟩
theorem Inv.lnew {its:List Value} {t':Nat} (I:Inv X pins σ H s) (hv:Vals ys its) (hz:ys.length<=sizeLine) :
  Inv X pins σ (upd H s.heap.objs.size (.lst ys)) { s with heap:=s.heap.push { cls := .type "list",data := .seq its.toArray },toks:=t' } :=
 I.laid (fun _ _ q=>Heap.get?_push_of_some _ q) (Nat.le_refl _) ⟨hz,its,0,hv,Heap.get?_push_size _ rfl⟩
theorem Inv.fresh (I:Inv X pins σ H s):H s.heap.objs.size=none:=I.hok.fresh (Nat.le_refl _)
theorem Inv.lstM (I:Inv X pins σ H s) (hH:H l=some (.lst xs)):xs.length<=sizeLine/\∃ (its:List Value) (n:Nat),Vals xs its/\xs.length=its.length/\s.heap.get? l=some { cls := .type "list",data := .seq its.toArray n }:=by
 obtain ⟨z,its,n,r,e⟩:=I.hok l _ hH
 exact ⟨z,its,n,r,r.length,e⟩
end
section
variable {X:Cx}
noncomputable def rAppend:V->List V->Hp->VK->Prop:=fun x vs H Q=>∃ l xs y,x = .ref l/\vs = [y]/\H l=some (.lst xs)/\xs.length < sizeLine/\Q .non (upd H l (.lst (xs ++ [y])))
theorem zaM:MtM X "list.append" rAppend:=by
 intro pins s σ H x vs v us Q I rx rv h
 obtain ⟨l,xs,y,rfl,rfl,hH,hz,q⟩:=h
 cases rx
 obtain ⟨u,rfl,ru⟩:=rv.one
 obtain ⟨z,its,n,r,hl,e⟩:=I.lstM hH
 refine call_meets F.slot_list_append ⟨_,e,rfl⟩ F.entry_list_append (F.args_list_append_2 _ _) (PySem.list_append l its.toArray n u (by rw [List.size_toArray]; omega)) ⟨e,?_⟩
 refine ⟨.non,_,I.lset (its':=its ++ [u]) hH e (by simp) (r.append (.cons ru .nil)) ?_,rfl,q⟩
 rw [List.length_append,List.length_singleton]
 omega
noncomputable def rPop:V->List V->Hp->VK->Prop:=fun x vs H Q=>∃ l xs y,x = .ref l/\vs = []/\H l=some (.lst xs)/\xs[xs.length - 1]?=some y/\Q y (upd H l (.lst xs.dropLast))
theorem mt_pop:MtM X "list.pop" rPop:=by
 intro pins s σ H x vs v us Q I rx rv h
 obtain ⟨l,xs,y,rfl,rfl,hH,hy,q⟩:=h
 cases rx
 have hus:=rv.zero
 subst hus
 obtain ⟨z,its,n,r,hl,e⟩:=I.lstM hH
 obtain ⟨u,hu,ru⟩:=r.get hy
 have hy':its.toArray[its.toArray.size - 1]?=some u:=by
  show its.toArray[its.length - 1]?=some u
  rw [<- Array.getElem?_toList,<- hl]
  exact hu
 refine call_meets F.slot_list_pop ⟨_,e,rfl⟩ F.entry_list_pop (F.args_list_pop_1 _) (MeetsSeq.list_pop_last l its.toArray n u hy' (by rw [List.size_toArray]; omega)) ⟨e,?_⟩
 refine ⟨y,_,I.lset (its':=its.dropLast) hH e ?_ r.dropLast ?_,ru,q⟩
 ·show its.toArray.eraseIdxIfInBounds (its.toArray.size - 1)=its.dropLast.toArray
  rw [List.size_toArray,List.eraseIdxIfInBounds_toArray,erase_last]
 ·rw [List.length_dropLast]
  omega
noncomputable def rCat:R2:=fun x y H Q=>∃ l b xs zs,x = .ref l/\y = .ref b/\H l=some (.lst xs)/\H b=some (.lst zs)/\xs.length + zs.length<=sizeLine/\∀ p,H p=none->Q (.ref p) (upd H p (.lst (xs ++ zs)))
theorem zeX:OpR X (binaryOp .Add) rCat:=by
 intro pins s σ H x y v u Q I rx ry h
 obtain ⟨l,b,xs,zs,rfl,rfl,hH,hB,hz,q⟩:=h
 cases rx
 cases ry
 obtain ⟨z,its,n,r,hl,e⟩:=I.lstM hH
 obtain ⟨z2,its2,n2,r2,hl2,e2⟩:=I.lstM hB
 refine PySem.P.add_list e e2 ?_ (by rw [List.size_toArray,List.size_toArray]; omega)
 have ea:its.toArray ++ its2.toArray=(its ++ its2).toArray:=by simp
 rw [ea]
 exact ⟨.ref _,_,I.lnew (t':=s.toks) (r.append r2) (by rw [List.length_append]; omega),rfl,q _ I.fresh⟩
end
section
variable {prog:Program} {w:World} {A:Around} {E:Value->Shared->Prop} {s:Shared}
end
section
variable {X:Cx}
end
section
variable {κ : Type} [DecidableEq κ]
noncomputable def valV (kvs:List (κ × V)) (k : κ):Option V:=(kvs.find? fun kv=>decide (kv.1=k)).map (·.2)
noncomputable def putK (kvs:List (κ × V)) (k : κ) (v:V):List (κ × V) :=
 if (kvs.any fun kv=>decide (kv.1=k))=true then kvs.map (fun kv=>if kv.1=k then (kv.1,v) else kv) else kvs ++ [(k,v)]
theorem zaO {p : κ × V} {r:List (κ × V)} {k : κ} (e:p.1=k):valV (p :: r) k=some p.2:=by simp [valV,List.find?_cons,e]
theorem zaL {p : κ × V} {r:List (κ × V)} {k : κ} (e:¬ p.1=k):valV (p :: r) k=valV r k:=by simp [valV,List.find?_cons,e]
theorem za8 (k : κ):∀ kvs:List (κ × V),(kvs.any fun kv=>decide (kv.1=k))=(valV kvs k).isSome
 | []=>rfl
 | p :: r=>by
  rw [List.any_cons]
  by_cases e:p.1=k
  ·simp only [zaO e,decide_eq_true e,Bool.true_or,Option.isSome_some]
  ·rw [zaL e,decide_eq_false e,Bool.false_or]; exact za8 k r
theorem zeD (k j : κ) (y:V):∀ kvs:List (κ × V),valV (kvs.map fun kv=>if kv.1=k then (kv.1,y) else kv) j=(valV kvs j).map fun x=>if j=k then y else x
 | []=>rfl
 | p :: r=>by
  have ih:=zeD k j y r
  rw [List.map_cons]
  by_cases h:p.1=k
  ·rw [if_pos h]
   by_cases e:p.1=j
   ·rw [zaO (p:=(p.1,y)) e,zaO e,Option.map_some,if_pos (e.symm.trans h)]
   ·rw [zaL (p:=(p.1,y)) e,zaL e,ih]
  ·rw [if_neg h]
   by_cases e:p.1=j
   ·rw [zaO (p:=p) e,zaO e,Option.map_some,if_neg (fun z=>h (e.trans z))]
   ·rw [zaL (p:=p) e,zaL e,ih]
theorem zdP (k j : κ) (y:V):∀ kvs:List (κ × V),valV kvs k=none->valV (kvs ++ [(k,y)]) j=if j=k then some y else valV kvs j
 | [],_=>by
  by_cases e:k=j
  ·rw [if_pos e.symm]; exact zaO (p:=(k,y)) e
  ·rw [if_neg (fun z=>e z.symm)]; exact zaL (p:=(k,y)) e
 | p :: r,hn=>by
  rw [List.cons_append]
  have hk:¬ p.1=k:=fun z=>by rw [zaO z] at hn; cases hn
  rw [zaL hk] at hn
  have ih:=zdP k j y r hn
  by_cases e:p.1=j
  ·rw [zaO e,zaO e,if_neg (fun z=>hk (e.trans z))]
  ·rw [zaL e,zaL e,ih]
theorem valV_put (kvs:List (κ × V)) (k j : κ) (y:V):valV (putK kvs k y) j=if j=k then some y else valV kvs j:=by
 unfold putK
 by_cases a:(kvs.any fun kv=>decide (kv.1=k))=true
 ·rw [if_pos a,zeD]
  rw [za8] at a
  by_cases e:j=k
  ·obtain ⟨x,hx⟩:=Option.isSome_iff_exists.mp a
   rw [if_pos e,e,hx,Option.map_some,if_pos rfl]
  ·rw [if_neg e]
   cases valV kvs j with
   | none=>rfl
   | some x=>rw [Option.map_some,if_neg e]
 ·rw [if_neg a]
  refine zdP k j y kvs ?_
  rw [za8] at a
  cases q:valV kvs k with
  | none=>rfl
  | some x=>rw [q] at a; exact (a rfl).elim
theorem zbW (kvs:List (κ × V)) (k : κ) (v:V):(putK kvs k v).length<=kvs.length + 1:=by
 unfold putK
 split
 ·rw [List.length_map]; omega
 ·rw [List.length_append,List.length_cons,List.length_nil]; omega
theorem zcD {kvs:List (κ × V)} {k : κ} (v:V) (h:valV kvs k=none):putK kvs k v=kvs ++ [(k,v)]:=by
 unfold putK
 rw [za8,h]
 exact if_neg (by decide)
theorem RelO.isSome_eq {o:Option V} {u:Option Value} (r:RelO o u):o.isSome=u.isSome:=by
 cases o with
 | none=>cases u with
  | none=>rfl
  | some _=>exact (show False from r).elim
 | some _=>cases u with
  | none=>exact (show False from r).elim
  | some _=>rfl
theorem KV.val {kvs:List (κ × V)} {vs:List (κ × Value)} (r:KV kvs vs) (k : κ):RelO (valV kvs k) (valueAt vs k):=by
 unfold KV at r
 induction r with
 | nil=>exact True.intro
 | @cons p q ps qs h t ih =>
  obtain ⟨h1,h2⟩:=h
  by_cases e:p.1=k
  ·have e':q.1=k:=h1.symm.trans e
   have b:valueAt (q :: qs) k=some q.2:=by simp [valueAt,List.find?_cons,e']
   rw [zaO e,b]; exact h2
  ·have e':¬ q.1=k:=fun z=>e (h1.trans z)
   have b:valueAt (q :: qs) k=valueAt qs k:=by simp [valueAt,List.find?_cons,e']
   rw [zaL e,b]; exact ih
theorem KV.any {kvs:List (κ × V)} {vs:List (κ × Value)} (r:KV kvs vs) (k : κ):(kvs.any fun kv=>decide (kv.1=k))=vs.any fun kv=>decide (kv.1=k):=by
 unfold KV at r
 induction r with
 | nil=>rfl
 | cons h t ih=>rw [List.any_cons,List.any_cons,ih,h.1]
theorem KV.repl {kvs:List (κ × V)} {vs:List (κ × Value)} (r:KV kvs vs) (k : κ) {y:V} {u:Value} (ry:RelV y u) :
  KV (kvs.map fun kv=>if kv.1=k then (kv.1,y) else kv) (vs.map fun kv=>if kv.1=k then (kv.1,u) else kv):=by
 unfold KV at r ⊢
 induction r with
 | nil=>exact .nil
 | @cons p q ps qs h t ih =>
  rw [List.map_cons,List.map_cons]
  refine .cons ?_ ih
  obtain ⟨h1,h2⟩:=h
  by_cases e:p.1=k
  ·rw [if_pos e,if_pos (h1.symm.trans e)]; exact ⟨h1,ry⟩
  ·rw [if_neg e,if_neg (fun z=>e (h1.trans z))]; exact ⟨h1,h2⟩
theorem KV.put {kvs:List (κ × V)} {vs:List (κ × Value)} (r:KV kvs vs) (k : κ) {y:V} {u:Value} (ry:RelV y u):KV (putK kvs k y) (stored vs k u):=by
 unfold putK stored
 rw [r.any k]
 by_cases e:(vs.any fun kv=>decide (kv.1=k))=true
 ·rw [if_pos e,if_pos e]; exact r.repl k ry
 ·rw [if_neg e,if_neg e]; exact Paired.snoc r ⟨rfl,ry⟩
theorem KV.length {kvs:List (κ × V)} {vs:List (κ × Value)} (r:KV kvs vs):kvs.length=vs.length:=Paired.length r
end
theorem zfL {P:Program} {w:World} {k:Key} {u:Value} (r:RelV (kV k) u):(mixKind P w).is k u=true:=by
 cases k with
 | inl i=>obtain ⟨t,e⟩:=(show ∃ t,u=Value.int i t from r); subst e; exact mixKind_int P w i t
 | inr x=>obtain ⟨t,e⟩:=(show ∃ t,u=Value.str x t from r); subst e; exact mixKind_str P w x t
theorem zd5 {P:Program} {w:World}:∀ {ks:List Key} {us:List Value},Vals (ks.map kV) us->ItemsAre (mixKind P w) ks us
 | [],_,r=>by rw [List.map_nil] at r; cases r; exact .nil
 | k :: ks,_,r=>by
  rw [List.map_cons] at r
  cases r with
  | cons h t=>exact .cons (zfL h) (zd5 t)
noncomputable abbrev KT (H:Hp):List (List Key×V)->List (List Key×Addr×Value)->Prop:=Paired fun p q=>p.1=q.1/\H q.2.1=some (.tup (p.1.map kV))/\RelV p.2 q.2.2
theorem KT.val {H:Hp} {kvs:List (List Key×V)} {xs:List (List Key×Addr×Value)} (r:KT H kvs xs) (k:List Key):RelO (valV kvs k) ((atKey xs k).map (·.2)):=by
 induction r with
 | nil=>exact True.intro
 | @cons p q ps qs h t ih =>
  obtain ⟨h1,_,h2⟩:=h
  by_cases e:p.1=k
  ·have e':q.1=k:=h1.symm.trans e
   have b:atKey (q :: qs) k=some q.2:=by simp [atKey,List.find?_cons,e']
   rw [zaO e,b]; exact h2
  ·have e':¬ q.1=k:=fun z=>e (h1.trans z)
   have b:atKey (q :: qs) k=atKey qs k:=by simp [atKey,List.find?_cons,e']
   rw [zaL e,b]; exact ih
theorem KT.repl {H:Hp} {kvs:List (List Key×V)} {xs:List (List Key×Addr×Value)} (r:KT H kvs xs) (k:List Key) {y:V} {u:Value} (ry:RelV y u) :
  KT H (kvs.map fun kv=>if kv.1=k then (kv.1,y) else kv) (xs.map (putAt k u)):=by
 induction r with
 | nil=>exact .nil
 | @cons p q ps qs h t ih =>
  rw [List.map_cons,List.map_cons]
  refine .cons ?_ ih
  obtain ⟨h1,h2,h3⟩:=h
  unfold putAt
  by_cases e:p.1=k
  ·rw [if_pos e,if_pos (h1.symm.trans e)]; exact ⟨h1,h2,ry⟩
  ·rw [if_neg e,if_neg (fun z=>e (h1.trans z))]; exact ⟨h1,h2,h3⟩
theorem KT.put {H:Hp} {kvs:List (List Key×V)} {xs:List (List Key×Addr×Value)} (r:KT H kvs xs) (k:List Key) {b:Addr} {y:V} {u:Value} (hb:H b=some (.tup (k.map kV))) (ry:RelV y u) :
  KT H (putK kvs k y) (storedH xs k b u):=by
 have e:(kvs.any fun kv=>decide (kv.1=k))=(atKey xs k).isSome:=by
  rw [za8,(r.val k).isSome_eq,Option.isSome_map]
 unfold putK storedH
 rw [e]
 by_cases q:(atKey xs k).isSome=true
 ·rw [if_pos q,if_pos q]; exact r.repl k ry
 ·rw [if_neg q,if_neg q]; exact Paired.snoc r ⟨rfl,hb,ry⟩
theorem KT.keeps {H H':Hp} {kvs:List (List Key×V)} {xs:List (List Key×Addr×Value)} (r:KT H kvs xs) (ht:∀ b ys,H b=some (.tup ys)->H' b=some (.tup ys)):KT H' kvs xs :=
 Paired.mapP r fun _ _ z=>⟨z.1,ht _ _ z.2.1,z.2.2⟩
section
variable {P:Program} {w:World} {H:Hp} {h:Heap} {a:Addr}
theorem zgz {u:HO} (ok:HOk P w H h) (e:Rd H a u):ObjOk P w H h a u:=e.ok ok
theorem zeu {kvs:List (Key×V)} (ok:HOk P w H h) (e:Rd H a (.dK kvs)):kvs.length<=sizeLine/\(a == sysModules)=false/\∃ vs,KV kvs vs/\h.DictOf (mixKind P w) a vs :=
 show ObjOk P w H h a (.dK kvs) from zgz ok e
theorem dk_of {kvs:List (Key×V)} (ok:HOk P w H h) (e:H a=some (.dK kvs)):kvs.length<=sizeLine/\(a == sysModules)=false/\∃ vs,KV kvs vs/\h.DictOf (mixKind P w) a vs:=zeu ok (.inl e)
theorem zdj {ks:List Key} (ok:HOk P w H h) (e:H a=some (.tup (ks.map kV))):(tupleKind (mixKind P w)).is h ks a:=by
 obtain ⟨_,its,r,o,h1,h2,n,h3⟩:=(show ObjOk P w H h a (.tup (ks.map kV)) from ok a _ e)
 exact ⟨o,its.toArray,n,h1,h2,h3,by simpa using zd5 r⟩
theorem zfW {kvs:List (List Key×V)} (ok:HOk P w H h) (e:Rd H a (.dT kvs)):kvs.length<=sizeLine/\(a == sysModules)=false /\
  ∃ xs,KT H kvs xs/\h.DictOfH (tupleKind (mixKind P w)) a xs:=by
 obtain ⟨z,y,xs,r,o,es,ep,h1,h2,h3,h4,h5⟩:=(show ObjOk P w H h a (.dT kvs) from zgz ok e)
 refine ⟨z,y,xs,r,o,es,ep,h1,h2,h3,h4,fun x hx => ?_,h5⟩
 have all:∀ {l:List (List Key×V)} {m:List (List Key×Addr×Value)},KT H l m->∀ x∈m,(tupleKind (mixKind P w)).is h x.1 x.2.1:=by
  intro l m q
  induction q with
  | nil=>intro x hx; exact nomatch hx
  | @cons p q ps qs hq t ih =>
   intro x hx
   rcases List.mem_cons.mp hx with e | hx
   ·subst e
    exact zdj ok (by rw [<- hq.1]; exact hq.2.1)
   ·exact ih x hx
 exact all r x hx
theorem dt_of {kvs:List (List Key×V)} (ok:HOk P w H h) (e:H a=some (.dT kvs)):kvs.length<=sizeLine/\(a == sysModules)=false /\
  ∃ xs,KT H kvs xs/\h.DictOfH (tupleKind (mixKind P w)) a xs:=zfW ok (.inl e)
end
noncomputable def DGet (H:Hp) (a:Addr) (y:V) (r:Option V):Prop :=
 (∃ kvs k,Rd H a (.dK kvs)/\y=kV k/\r=valV kvs k)\/∃ kvs k b,Rd H a (.dT kvs)/\y = .ref b/\H b=some (.tup (k.map kV))/\r=valV kvs k
noncomputable def DPut (H:Hp) (a:Addr) (y v:V) (H':Hp):Prop :=
 (∃ kvs k,H a=some (.dK kvs)/\y=kV k/\kvs.length < sizeLine/\H'=upd H a (.dK (putK kvs k v))) \/
 ∃ kvs k b,H a=some (.dT kvs)/\y = .ref b/\H b=some (.tup (k.map kV))/\kvs.length < sizeLine/\H'=upd H a (.dT (putK kvs k v))
theorem DGet.k {H:Hp} {a:Addr} {kvs:List (Key×V)} {k:Key} (e:H a=some (.dK kvs)):DGet H a (kV k) (valV kvs k) := .inl ⟨kvs,k,.inl e,rfl,rfl⟩
theorem DGet.t {H:Hp} {a b:Addr} {kvs:List (List Key×V)} {k:List Key} (e:H a=some (.dT kvs)) (eb:H b=some (.tup (k.map kV))):DGet H a (.ref b) (valV kvs k) := .inr ⟨kvs,k,b,.inl e,rfl,eb,rfl⟩
theorem DPut.k {H:Hp} {a:Addr} {kvs:List (Key×V)} {k:Key} {v:V} (e:H a=some (.dK kvs)) (hl:kvs.length < sizeLine):DPut H a (kV k) v (upd H a (.dK (putK kvs k v))) := .inl ⟨kvs,k,e,rfl,hl,rfl⟩
theorem DPut.t {H:Hp} {a b:Addr} {kvs:List (List Key×V)} {k:List Key} {v:V} (e:H a=some (.dT kvs)) (eb:H b=some (.tup (k.map kV))) (hl:kvs.length < sizeLine) :
  DPut H a (.ref b) v (upd H a (.dT (putK kvs k v))) := .inr ⟨kvs,k,b,e,rfl,eb,hl,rfl⟩
section
variable {X:Cx} {pins:List (Addr×Obj)} {σ : St} {H:Hp} {s:Shared} {a:Addr} {y v:V} {u r:Value} {o:Option V} {A:Around} {E:Value->Shared->Prop}
theorem Inv.big (I:Inv X pins σ H s):sysModules < s.heap.objs.size:=by
 have h:mainGlobals < s.heap.objs.size:=(I.mod.glob.keeps I.bk).lt
 exact Nat.lt_trans (by decide) h
theorem d_getItem {Q:Value->Shared->Prop} (hu:A.units + 1 < cLine) (I:Inv X pins σ H s) (g:DGet H a y (some v)) (ry:RelV y u) (h:∀ w' s',Inv X pins σ H s'->RelV v w'->Q w' s') :
  wpAny (model X.prog X.w) A (getItem (.ref a) u) Q E s:=by
 rcases g with ⟨kvs,k,e,ey,l⟩ | ⟨kvs,k,b,e,ey,eb,l⟩
 ·subst ey
  obtain ⟨z,hd,vs,rel,dd⟩:=zeu I.hok e
  obtain ⟨w',hw,rw'⟩:=RelO.some_of (v:=v) (o:=valueAt vs k) (by rw [l]; exact rel.val k)
  exact wpAny_getItem_of (zfL ry) dd.mapOf hw (h w' _ (I.tok _) rw')
 ·subst ey
  cases (show u=Value.ref b from ry)
  obtain ⟨z,hd,xs,rel,dd⟩:=zfW I.hok e
  obtain ⟨w',hw,rw'⟩:=RelO.some_of (v:=v) (o:=(atKey xs k).map (·.2)) (by rw [l]; exact rel.val k)
  obtain ⟨p,hp,hp2⟩:=Option.map_eq_some_iff.mp hw
  refine wpAny_getItem_heap (tupleKind_room_in1 hu) (zdj I.hok eb) dd hp ?_
  rw [hp2]
  exact h w' _ (I.tok _) rw'
theorem d_in {Q:Value->Shared->Prop} (hu:A.units + 1 < cLine) (I:Inv X pins σ H s) (g:DGet H a y o) (ry:RelV y u) (h:∀ s',Inv X pins σ H s'->Q (.bool o.isSome) s') :
  wpAny (model X.prog X.w) A (compareOp .In u (.ref a)) Q E s:=by
 rcases g with ⟨kvs,k,e,ey,l⟩ | ⟨kvs,k,b,e,ey,eb,l⟩
 ·subst ey
  obtain ⟨z,hd,vs,rel,dd⟩:=zeu I.hok e
  refine wpAny_in_of (zfL ry) hd dd.mapOf ?_
  rw [<- (rel.val k).isSome_eq,<- l]
  exact h _ (I.tok _)
 ·subst ey
  cases (show u=Value.ref b from ry)
  obtain ⟨z,hd,xs,rel,dd⟩:=zfW I.hok e
  refine wpAny_in_heap (tupleKind_room_in1 hu) (zdj I.hok eb) hd dd ?_
  have q:=(rel.val k).isSome_eq
  rw [Option.isSome_map] at q
  rw [<- q,<- l]
  exact h _ (I.tok _)
theorem d_notIn {Q:Value->Shared->Prop} (hu:A.units + 1 < cLine) (I:Inv X pins σ H s) (g:DGet H a y o) (ry:RelV y u) (h:∀ s',Inv X pins σ H s'->Q (.bool (!o.isSome)) s') :
  wpAny (model X.prog X.w) A (compareOp .NotIn u (.ref a)) Q E s:=by
 rcases g with ⟨kvs,k,e,ey,l⟩ | ⟨kvs,k,b,e,ey,eb,l⟩
 ·subst ey
  obtain ⟨z,hd,vs,rel,dd⟩:=zeu I.hok e
  refine wpAny_notIn_of (zfL ry) hd dd.mapOf ?_
  rw [<- (rel.val k).isSome_eq,<- l]
  exact h _ (I.tok _)
 ·subst ey
  cases (show u=Value.ref b from ry)
  obtain ⟨z,hd,xs,rel,dd⟩:=zfW I.hok e
  refine wpAny_notIn_heap (tupleKind_room_in1 hu) (zdj I.hok eb) hd dd ?_
  have q:=(rel.val k).isSome_eq
  rw [Option.isSome_map] at q
  rw [<- q,<- l]
  exact h _ (I.tok _)
theorem zf0 {h':Heap} {t':Nat} {ob:HO} (I:Inv X pins σ H s) (mu:Mut (H a)) (hs:Heap.SameBut a s.heap h') (he:∃ q,h'.get? a=some q) (new:ObjOk X.prog X.w (upd H a ob) h' a ob) :
  Inv X pins σ (upd H a ob) { s with heap:=h',toks:=t' } :=
 I.write (x:=a) (e:=a) mu (.inl rfl) (fun b q hb z=>(hs.2 b hb).trans z) he new
theorem zgo {P:Program} {w:World} {H':Hp} {h':Heap} {kvs:List (Key×V)} {vs:List (Key×Value)} (z:kvs.length<=sizeLine) (hd:(a == sysModules)=false) (rel:KV kvs vs) (dd:h'.DictOf (mixKind P w) a vs) :
  ObjOk P w H' h' a (.dK kvs):=⟨z,hd,vs,rel,dd⟩
theorem d_setItem {H':Hp} {Q:Unit->Shared->Prop} (hu:A.units + 1 < cLine) (I:Inv X pins σ H s) (g:DPut H a y v H') (ry:RelV y u) (rv:RelV v r) (h:∀ s',Inv X pins σ H' s'->Q () s') :
  wpAny (model X.prog X.w) A (setItem (.ref a) u r) Q E s:=by
 rcases g with ⟨kvs,k,e,ey,l,eH⟩ | ⟨kvs,k,b,e,ey,eb,l,eH⟩
 ·subst ey eH
  obtain ⟨z,hd,vs,rel,dd⟩:=dk_of I.hok e
  have hz:vs.length<=sizeLine:=by rw [<- rel.length]; exact z
  have hl:(putK kvs k v).length<=sizeLine:=by have:=zbW kvs k v; omega
  refine wpAny_setItem_pairs (hsz:=hz) (zfL ry) dd fun h' dd' hs=>h _ ?_
  have he:∃ q,h'.get? a=some q:=let ⟨q,_,_,hq,_⟩:=dd'; ⟨q,hq⟩
  exact zf0 I (by rw [e]; exact True.intro) hs he (zgo hl hd (rel.put k rv) dd')
 ·subst ey eH
  cases (show u=Value.ref b from ry)
  obtain ⟨z,hd,xs,rel,dd⟩:=dt_of I.hok e
  have hz:xs.length<=sizeLine:=by rw [<- Paired.length rel]; exact z
  have hl:(putK kvs k v).length<=sizeLine:=by have:=zbW kvs k v; omega
  refine wpAny_setItem_heap (hsz:=hz) (tupleKind_room_in1 hu) (zdj I.hok eb) dd fun h' dd' hs=>h _ ?_
  obtain ⟨q,es,ep,hq,h2,h3,h4,_,h5⟩:=dd'
  refine zf0 I (by rw [e]; exact True.intro) hs ⟨q,hq⟩ ⟨hl,hd,_,(rel.put k eb rv).keeps fun c ys ec => ?_,q,es,ep,hq,h2,h3,h4,h5⟩
  rw [zah (zgB ec e (fun z=>nomatch z))]
  exact ec
end
section
variable {X:Cx} {pins:List (Addr×Obj)} {σ : St} {H:Hp} {s:Shared} {a:Addr} {kvs:List (Key×V)} {k:Key} {u:Value} {A:Around} {E:Value->Shared->Prop}
theorem d_len {Q:Value->Shared->Prop} (I:Inv X pins σ H s) (e:Rd H a (.dK kvs)) (h:∀ t s',Inv X pins σ H s'->Q (.int kvs.length t) s'):wpAny (model X.prog X.w) A (call (.builtin "len") [.ref a]) Q E s:=by
 obtain ⟨z,hd,vs,rel,dd⟩:=zeu I.hok e
 refine call_len_dict hd dd (by rw [<- rel.length]; rw [sizeLine_eq] at z; omega) ?_
 rw [<- rel.length]
 exact h _ _ (I.tok _)
end
noncomputable def NoSl (i:Expr):Prop:=∀ ov iv,subscripted i false ov iv=operate [ov,iv] (getItem ov iv)
theorem subD_of {prog:Program} {w:World} {A:Around} {E:Value->Shared->Prop} {s:Shared} {env:Env} {value slice:Expr} {pos:Pos} {T id:String} {Q:Value->Shared->Prop}
  (hl:typeLookup (.type T) "__getitem__" = pure (some (.builtin id))) (hs:NoSl slice)
  (h:wpAny (model prog w) A (eval value env) (fun o s₁ => wpAny (model prog w) A (eval slice env) (fun i s₂ => s₂.TypeIs o T/\wpAny (model prog w) A (getItem o i) Q E s₂) E s₁) E s) :
  wpAny (model prog w) A (eval (.Subscript value slice pos) env) Q E s:=by
 refine Subscript_ (wpAny_mono h (fun o s₁ h₁ => wpAny_mono h₁ (fun i s₂ h₂ => ?_) fun _ _ x=>x) fun _ _ x=>x)
 obtain ⟨hT,h₂⟩:=h₂
 unfold subscriptTail
 refine wpAny_bind ?_
 rw [getitemInPython_of_ne hT.not_modules]
 refine wpAny_bind (wpAny_specialOf hT hl ?_)
 have fin:wpAny (model prog w) A (subscripted slice false o i) (fun r s₃ => wpAny (model prog w) A (letTemporaryGo value o r >>= fun _=>pure r) Q E s₃) E s₂ := by
  rw [hs o i]
  exact wpAny_operating (wpAny_mono h₂ (fun r s₃ h₃ => wpAny_bind (wpAny_letTemporaryGo (wpAny_pure h₃))) fun _ _ x=>x)
 first
  | exact wpAny_pure (wpAny_bind fin)
  | exact wpAny_bind (wpAny_pure (wpAny_bind fin))
  | exact wpAny_bind fin
theorem dict_typeIs {X:Cx} {pins:List (Addr×Obj)} {σ : St} {H:Hp} {s:Shared} {a:Addr} {y:V} {o:Option V} (I:Inv X pins σ H s) (g:DGet H a y o):s.TypeIs (.ref a) "dict" := by
 rcases g with ⟨kvs,k,e,_,_⟩ | ⟨kvs,k,b,e,_,_,_⟩
 ·obtain ⟨_,_,vs,_,dd⟩:=zeu I.hok e
  exact dd.typeIs
 ·obtain ⟨_,_,xs,_,dd⟩:=zfW I.hok e
  exact dd.typeIs
noncomputable def tDGet (td ty:TE):TE:=fun σ H Q=>td σ H fun x H1=>ty σ H1 fun y H2=>∃ a v,x = .ref a/\DGet H2 a y (some v)/\Q v H2
noncomputable def tDIn (ty td:TE):TE:=fun σ H Q=>ty σ H fun y H1=>td σ H1 fun x H2=>∃ a o,x = .ref a/\DGet H2 a y o/\Q (.bl o.isSome) H2
noncomputable def tDNotIn (ty td:TE):TE:=fun σ H Q=>ty σ H fun y H1=>td σ H1 fun x H2=>∃ a o,x = .ref a/\DGet H2 a y o/\Q (.bl (!o.isSome)) H2
noncomputable def sDPut (td ty tv:TE):TS:=fun D σ H=>tv σ H fun v H1=>td σ H1 fun x H2=>ty σ H2 fun y H3=>∃ a H4,x = .ref a/\DPut H3 a y v H4/\D.nx σ H4
section
variable {X:Cx} {o i e value:Expr} {pos pos' tpos:Pos} {td ty tv:TE}
theorem zdB (hu:X.A.units + 1 < cLine) (ho:PE X o td) (hi:PE X i ty) (hs:NoSl i):PE X (.Subscript o i pos) (tDGet td ty):=by
 intro pins s σ H Q I h
 refine subD_of PySem.F.slot_dict_getitem.lookup hs (thnE (ho pins s σ H _ I h) fun u s1 x H1 I1 rx q1=>thnE (hi pins s1 σ H1 _ I1 q1) fun iv s2 y H2 I2 ry ⟨a,v,ex,g,q2⟩ => ?_)
 subst ex
 obtain rfl:u=Value.ref a:=rx
 exact ⟨dict_typeIs I2 g,d_getItem hu I2 g ry fun w' s3 I3 rw'=>⟨v,H2,I3,rw',q2⟩⟩
theorem zgd (hu:X.A.units + 1 < cLine) (hi:PE X i ty) (ho:PE X o td):PC X .In i o (tDIn ty td):=by
 intro pins s σ H Q I h
 refine thnE (hi pins s σ H _ I h) fun iv s1 y H1 I1 ry q1=>thnE (ho pins s1 σ H1 _ I1 q1) fun u s2 x H2 I2 rx ⟨a,ov,ex,g,q2⟩ => ?_
 subst ex
 obtain rfl:u=Value.ref a:=rx
 exact d_in hu I2 g ry fun s3 I3=>⟨.bl ov.isSome,H2,I3,rfl,q2⟩
theorem zcd (hu:X.A.units + 1 < cLine) (hi:PE X i ty) (ho:PE X o td):PC X .NotIn i o (tDNotIn ty td):=by
 intro pins s σ H Q I h
 refine thnE (hi pins s σ H _ I h) fun iv s1 y H1 I1 ry q1=>thnE (ho pins s1 σ H1 _ I1 q1) fun u s2 x H2 I2 rx ⟨a,ov,ex,g,q2⟩ => ?_
 subst ex
 obtain rfl:u=Value.ref a:=rx
 exact d_notIn hu I2 g ry fun s3 I3=>⟨.bl (!ov.isSome),H2,I3,rfl,q2⟩
theorem zcP (hu:X.A.units + 1 < cLine) (ho:PE X o td) (hi:PE X i ty) (hv:PE X value tv) (hs:swapsWith value (some (.Subscript o i pos')) pos.line X.env=pure false) :
  PS X (.Assign [.Subscript o i pos'] value pos) (sDPut td ty tv):=by
 intro pins s σ H D I h
 refine wpAny_Assign_Subscript (thnE (hv pins s σ H _ I h) fun r s1 v H1 I1 rv q1=>thnE (ho pins s1 σ H1 _ I1 q1) fun u s2 x H2 I2 rx q2=>thnE (hi pins s2 σ H2 _ I2 q2) fun iv s3 y H3 I3 ry ⟨a,H4,ex,g,q3⟩ => ?_) hs
 subst ex
 obtain rfl:u=Value.ref a:=rx
 exact d_setItem hu I3 g ry rv fun s4 I4=>⟨σ,H4,I4,q3⟩
end
theorem dk_empty {P:Program} {w:World} {H:Hp} (h:Heap) (hb:sysModules < h.objs.size):ObjOk P w H (h.push { cls := .type "dict",data := .dict #[] }) h.objs.size (.dK []) :=
 ⟨Nat.zero_le _,beq_eq_false_iff_ne.mpr (Ne.symm (Nat.ne_of_lt hb)),[],.nil,Heap.DictOf.new h⟩
theorem dt_empty {P:Program} {w:World} {H:Hp} (h:Heap) (hb:sysModules < h.objs.size):ObjOk P w H (h.push { cls := .type "dict",data := .dict #[] }) h.objs.size (.dT []) :=
 ⟨Nat.zero_le _,beq_eq_false_iff_ne.mpr (Ne.symm (Nat.ne_of_lt hb)),[],.nil,_,#[],0,Heap.get?_push_size _ rfl,⟨rfl,rfl,rfl⟩,rfl,rfl,List.nodup_nil⟩
noncomputable def tDNewK:TE:=fun _ H Q=>∀ p,H p=none->Q (.ref p) (upd H p (.dK []))
noncomputable def tDNewT:TE:=fun _ H Q=>∀ p,H p=none->Q (.ref p) (upd H p (.dT []))
section
variable {X:Cx} {pos:Pos}
theorem zdA:PE X (.Dict [] [] pos) tDNewK:=fun pins s σ H Q I h =>
 wpAny_Dict_empty ⟨.ref s.heap.objs.size,_,I.laid (a:=s.heap.objs.size) (o := .dK []) (t':=s.toks) (fun _ _ q=>Heap.get?_push_of_some _ q) (Nat.le_refl _) (dk_empty s.heap I.big),rfl,h _ (I.hok.fresh (Nat.le_refl _))⟩
theorem zdz:PE X (.Dict [] [] pos) tDNewT:=fun pins s σ H Q I h =>
 wpAny_Dict_empty ⟨.ref s.heap.objs.size,_,I.laid (a:=s.heap.objs.size) (o := .dT []) (t':=s.toks) (fun _ _ q=>Heap.get?_push_of_some _ q) (Nat.le_refl _) (dt_empty s.heap I.big),rfl,h _ (I.hok.fresh (Nat.le_refl _))⟩
end
section
variable {X:Cx} {pins:List (Addr×Obj)} {σ : St} {H:Hp} {s:Shared} {a:Addr} {y d:V} {u r:Value} {o:Option V} {A:Around} {E:Value->Shared->Prop}
end
section
variable {X:Cx} {o e f:Expr} {apos cpos:Pos} {td ty tx:TE}
end
section
variable {X:Cx} {pins:List (Addr×Obj)} {σ : St} {H:Hp} {s:Shared} {a:Addr} {kvs:List (Key×V)} {A:Around} {E:Value->Shared->Prop}
theorem d_copyOf {Q:Value->Shared->Prop} (I:Inv X pins σ H s) (e:Rd H a (.dK kvs)) (h:∀ p s',H p=none->Inv X pins σ (upd H p (.dK kvs)) s'->Q (.ref p) s'):wpAny (model X.prog X.w) A (call (.type "dict") [.ref a]) Q E s:=by
 obtain ⟨z,hd,vs,rel,dd⟩:=zeu I.hok e
 refine kt_call_dict hd dd (by rw [<- rel.length]; exact z) fun h' dd' hs => ?_
 refine h _ _ (I.hok.fresh (Nat.le_refl _)) (I.laid (a:=s.heap.objs.size) (o := .dK kvs) (t':=s.toks) (fun b q hq => ?_) (Nat.le_refl _) (zgo z (beq_eq_false_iff_ne.mpr (Ne.symm (Nat.ne_of_lt I.big))) rel dd'))
 exact (hs.2 b (Nat.ne_of_lt (Heap.lt_size hq))).trans (Heap.get?_push_of_some _ hq)
end
section
variable {X:Cx} {pins:List (Addr×Obj)} {σ : St} {H:Hp} {s:Shared} {a:Addr} {y:V} {u:Value} {A:Around} {E:Value->Shared->Prop}
end
end L2
namespace Att
open PySem PySem.W PySem.Calls PyProof.Rows
theorem ints_of_wellAll {P:Params} {h:Heap}:∀ (ns:List Int) (vs:List Value),WellAll P h vs (ns.map WData.int)->IntsAre vs ns:=by
 intro ns
 induction ns with
 | nil =>
  intro vs w
  rw [List.map_nil] at w
  cases w
  exact .nil
 | cons n ns ih =>
  intro vs w
  rw [List.map_cons] at w
  cases w with
  | cons a b =>
   cases a
   exact .cons _ _ (ih _ b)
theorem script_of {l:OpenLaw} {n:Nat} (hn:l.most=some n) {P:Params} {h:Heap} {args:List WData} {vals:List Value}
  (hpre:l.row.toRowW.claim.pre args=true) (hwl:WellAll P h vals args) :
  ∃ a vs ns,vals = [Value.ref a]/\args = [WData.list (ns.map WData.int)]/\h.get? a=some { cls := .type "list",data := .seq vs.toArray }/\IntsAre vs ns/\ns.length<=n:=by
 have hsh:WShape.hasAll [] args [.list .int]=true:=(pre_splitW hpre).1
 have hc:l.pre.holds [] { args:=args }=true:=(pre_splitW hpre).2
 obtain ⟨d,r,rfl,h1,h2⟩:=hasAllW_cons hsh
 obtain rfl:=hasAllW_nil h2
 obtain ⟨xs,rfl,h3⟩:=hasW_list h1
 obtain ⟨ns,rfl⟩:=items_int h3
 have hlen:ns.length<=n:=by
  unfold OpenLaw.pre at hc
  have h4:(WTm.not (.lt (.lit (.int (n:Int))) (.len (.arg 0)))).holds [] { args := [.list (ns.map .int)] }=true:=by
   have h4:=(holds_andW hc).1
   rw [hn] at h4
   exact h4
  have h5:=condW_of h4 (w_not (w_lt w_lit (w_len_list (w_arg rfl))))
  rw [List.length_map] at h5
  refine Nat.le_of_not_lt fun q => ?_
  have q':(n:Int) < ((ns.length:Nat):Int):=by omega
  first
   | (rw [decide_eq_true q'] at h5; exact absurd h5 (by decide))
   | (simp at h5; omega)
 cases hwl with
 | cons w1 w2 =>
  cases w2
  cases w1 with
  | list ho hall=>exact ⟨_,_,ns,rfl,rfl,ho,ints_of_wellAll ns _ hall,hlen⟩
theorem post_true (l:OpenLaw) (args:List WData):l.row.toRowW.claim.post args (.bool true) args=true :=
 postW_of (r:=l.row.toRowW) (X:=(true == true))
  (show WShape.has [] (.bool true) .bool=true by first | rfl | decide | simp [WShape.has,WShape.arms,WShape.armsAll])
  (show (WTm.eq .res (.lit (.bool true))).value [] { args:=args,res:=some (.bool true),after:=args }=some (.bool (true == true)) from w_eq_bool (w_res rfl) w_lit) rfl
theorem attach_call {l:OpenLaw} {n:Nat} {q:Program} {loose:List Str} {XP:(Str->Option Value)->Heap->Prop} {YP:World->Heap->Prop} {d:DefRec}
  (hn:l.most=some n) (hdf:d.params.defaults = [])
  (call:∀ (w:World) (s₀ s₁ : Shared) (mg mb:Str->Option Value) (fa:Addr) (o:Obj) (pm cd doc:Value) (a:Addr) (vs:List Value) (ns:List Int),
   Ground q loose [] XP w s₀ mg mb s₁.heap->YP w s₁.heap ->
   s₁.heap.get? fa=some o->o.data = .func (docDef d.name d.params d.body d.scope pm cd doc)->s₁.heap.CodeRec cd d.name->mg d.name=some (.ref fa) ->
   s₁.heap.get? a=some { cls := .type "list",data := .seq vs.toArray }->IntsAre vs ns->ns.length<=n->s₁.gens = #[] ->
   codeAny (model l.prog w) callerA (.call (.ref fa) ⟨[.ref a],[]⟩) (fun r s'=>r = .ok (.ret (.bool true))/\OldK s₁.heap s'.heap/\s'.os=s₁.os/\AllBare s'.gens) s₁) :
  WalkO q loose XP YP l.row.toRowW d [] (fun f vs=>PySem.call f vs):=by
 intro w s₀ s₁ mg mb G Y fa o pm cd doc dV kV ho hd hcd hD hmg hg args vals as hpre hlay hrd hwl hlo
 obtain rfl:dV = .none:=Dflts.none hD hdf
 obtain rfl:kV = .none:=Dflts.noKw hD
 obtain ⟨a,vs,ns,rfl,rfl,hobj,hints,hlen⟩:=script_of hn hpre hwl
 refine enter_call (codeAny_mono (call w s₀ s₁ mg mb fa o pm cd doc a vs ns G Y ho (fd_plain hd) hcd hmg hobj hints hlen hg) fun r s' hq => ?_)
 obtain ⟨rfl,h2,h3,h4⟩:=hq
 exact ⟨.inl ⟨.bool true,.bool true,[],rfl,fun _=>rfl,.bool true,post_true l _,fun _=>⟨List.Pairwise.nil,fun _ hm=>(nomatch hm)⟩⟩,h2,h3,h4⟩
section
variable {prog:Program} {w:World} {A:Around} {E:Value->Shared->Prop} {s:Shared} {K:Frag}
noncomputable def ledger (h:Heap) (L d:Addr):List (Addr×Obj):=(List.range h.objs.size).filterMap fun a=>if a=L\/a=d then none else (h.get? a).map fun o=>(a,o)
end
end Att
namespace L2
open PySem PySem.Spec PyProof.Rows
theorem zb0:∀ {vs:List Value} {ns:List Int},IntsAre vs ns->Vals (ns.map V.int) vs
 | _,_,.nil => .nil
 | _,_,.cons n t h => .cons ⟨t,rfl⟩ (zb0 h)
noncomputable def Only (H:Hp):Prop:=∀ b,H b=none\/∃ o xs,H b=some (.frz o (.lst xs))
theorem law_call {P:Program} {w:World} {K:W.Frag} {mg mb:Str->Option Value} {CX:CXT} {k:Nat} {fa a:Addr} {fd:FuncData} {x:Str} {sp:Sp} {s₁ : Shared} {vs:List Value} {ns:List Int}
  (KX:K.In s₁.heap) (hns:s₁.heap.Ns mainGlobals mg) (hb:s₁.heap.Ns builtinsNs mb) (hbb:∀ x:Str,x ≠ "__name__" -> mb x=bootBuiltins x) (hlim:s₁.heap.NoLimit) (hg:s₁.gens = #[])
  (ha:s₁.heap.get? a=some { cls := .type "list",data := .seq vs.toArray }) (hi:IntsAre vs ns) (hl:ns.length<=sizeLine) (hr:Room k callerA)
  (F:∀ base:Heap,K.In base->base.Ns mainGlobals mg->FnOk P w K mg base CX k fa fd [x] sp) (hbind:∀ (s:Shared) (u:Value),BindsTo s fd ⟨[u],[]⟩ [(x,u)])
  (hsp:∀ H:Hp,Only H->SqL K H a (ns.map V.int)->sp [.ref a] H (fun v _=>v = .bl true) fun _ _ _=>False)
  (hCX:∀ H e s',CX [] H s₁ (fun _ _ _=>False) e s'->False) :
  codeAny (model P w) callerA (.call (.ref fa) ⟨[.ref a],[]⟩) (fun r s'=>r = .ok (.ret (.bool true))/\OldK s₁.heap s'.heap/\s'.os=s₁.os/\AllBare s'.gens) s₁ := by
 have rv:=zb0 hi
 have lenV:=hi.length
 have core:∀ H:Hp,Only H->SqL K H a (ns.map V.int)->HOk P w H s₁.heap->(∀ b,H b≠none->b=a)->(H a≠none->K.lookup a=none) ->
   codeAny (model P w) callerA (.call (.ref fa) ⟨[.ref a],[]⟩) (fun r s'=>r = .ok (.ret (.bool true))/\OldK s₁.heap s'.heap/\s'.os=s₁.os/\AllBare s'.gens) s₁ := by
  intro H hO hS hok hA hK
  have base_of:∀ {b:Addr} {o:Obj},s₁.heap.get? b=some o->H b=none->(hidT s₁.heap H).get? b=some o:=fun e n=>hidT_get e n
  have noA:∀ {b:Addr} {o:Obj} {es:Array DictEntry} {ep:Nat},s₁.heap.get? b=some o->o.data = .dict es ep->H b=none:=fun {b o es ep} e d=>by
   cases q:H b with
   | none=>rfl
   | some u =>
    have e':b=a:=hA b (by rw [q]; simp)
    subst e'
    rw [ha] at e; cases e
    have d':Data.seq vs.toArray _=Data.dict es ep:=d
    cases d'
  have nsK:∀ {b:Addr} {m:Str->Option Value},s₁.heap.Ns b m->(hidT s₁.heap H).Ns b m:=fun {b m} ⟨o,es,ep,e,d,r⟩=>⟨o,es,ep,base_of e (noA e d),d,r⟩
  have hKb:K.In (hidT s₁.heap H):=fun b o e=>base_of (KX b o e) (by
   cases q:H b with
   | none=>rfl
   | some u =>
    have e':b=a:=hA b (by rw [q]; simp)
    subst e'
    rw [hK (by rw [q]; simp)] at e; cases e)
  have hM:Mod K mg (hidT s₁.heap H):=⟨hKb,nsK hns,⟨mb,nsK hb,hbb⟩,let ⟨mc,h1,h2⟩:=hlim; ⟨mc,nsK h1,h2⟩⟩
  have e0:Env0 P w K mg (hidT s₁.heap H) callerA [] s₁ H:=⟨rfl,hM,fun b o e=>of_hidT e,Nat.le_of_eq (hidT_size _ _),trivial,fun b hb=>absurd (show b∈([]:List Addr) from hb) (by simp),hok,.of_eq hg⟩
  refine codeAny_mono ((F _ hKb (nsK hns)).run callerA [] s₁ H ⟨[.ref a],[]⟩ [.ref a] [.ref a] _ _ hr e0 (hbind s₁ (.ref a)) (.cons rfl .nil) (hsp H hO hS)) fun r s' h => ?_
  cases r with
  | error e=>exact (hCX H e s' h).elim
  | ok fl =>
   cases fl with
   | next=>exact False.elim h
   | brk=>exact False.elim h
   | cont=>exact False.elim h
   | ret u =>
    obtain ⟨v,H',os,bare,un,hok',r',q⟩:=h
    have q':v = .bl true:=q
    subst q'
    obtain rfl:u=Value.bool true:=r'
    refine ⟨rfl,OldK.of_keep fun b o e => ?_,os,bare⟩
    cases q:H b with
    | none=>exact un.keep b o e q (by intro z; exact absurd (show b∈([]:List Addr) from z) (by simp)) (by simp)
    | some u =>
     rcases hO b with z | ⟨ob,xs,z⟩
     ·rw [q] at z; cases z
     ·have z2:=un.frzs b ob _ z
      obtain ⟨e1,_⟩:=hok b _ z
      obtain ⟨e2,_⟩:=hok' b _ z2
      rw [e] at e1; cases e1
      exact e2
 cases hk:K.lookup a with
 | some o =>
  have e:=KX a o hk
  rw [ha] at e
  cases e
  refine core (fun _=>none) (fun _ => .inl rfl) (.inr ⟨_,vs.toArray,_,hk,rfl,rfl,rfl,by rw [List.size_toArray,lenV]; exact hl,by simpa using rv⟩) (fun b u z=>by have z':(none:Option HO)=some u:=z; cases z') (fun b z=>absurd rfl z) fun z=>absurd rfl z
 | none =>
  refine core (fun b=>if b=a then some (.frz { cls := .type "list",data := .seq vs.toArray } (.lst (ns.map V.int))) else none) (fun b => ?_) (.inl (.inr ⟨{ cls := .type "list",data := .seq vs.toArray },if_pos rfl⟩)) (fun b u z => ?_) (fun b z => ?_) fun _=>hk
  ·by_cases hb:b=a
   ·exact .inr ⟨_,_,if_pos hb⟩
   ·exact .inl (if_neg hb)
  ·by_cases hb:b=a
   ·have z':=(if_pos hb).symm.trans z
    cases z'
    subst hb
    exact ⟨ha,by rw [List.length_map]; exact hl,vs,_,rv,ha⟩
   ·have z':=(if_neg hb).symm.trans z
    cases z'
  ·by_cases hb:b=a
   ·exact hb
   ·exact absurd (if_neg hb) z
theorem walk_of {l:PySem.W.OpenLaw} {n k:Nat} {q:Program} {loose:List Str} {XP:(Str->Option Value)->Heap->Prop} {YP:World->Heap->Prop} {d:DefRec} {K:Params->W.Frag} {CX:World->CXT} {sp:World->Sp} {x:Str}
  (hn:l.most=some n) (hn2:n<=sizeLine) (hdf:d.params.defaults = []) (hr:Room k callerA)
  (hY:∀ (w:World) (h:Heap),YP w h->(K w.params).In h)
  (F:∀ (w:World) (mg:Str->Option Value) (fa:Addr) (h:Heap),(K w.params).In h->h.Ns mainGlobals mg->mg d.name=some (.ref fa) ->
   ∃ fd:FuncData,(∀ (s:Shared) (u:Value),BindsTo s fd ⟨[u],[]⟩ [(x,u)]) /\
    ∀ base:Heap,(K w.params).In base->base.Ns mainGlobals mg->FnOk l.prog w (K w.params) mg base (CX w) k fa fd [x] (sp w))
  (hsp:∀ (w:World) (H:Hp) (a:Addr) (ns:List Int),ns.length<=n->Only H->SqL (K w.params) H a (ns.map V.int)->sp w [.ref a] H (fun v _=>v = .bl true) fun _ _ _=>False)
  (hCX:∀ (w:World) (H:Hp) (s:Shared) (e:Value) (s':Shared),CX w [] H s (fun _ _ _=>False) e s'->False) :
  PySem.W.WalkO q loose XP YP l.row.toRowW d [] (fun f vs=>PySem.call f vs):=by
 refine Att.attach_call hn hdf fun w s₀ s₁ mg mb fa o pm cd doc a vs ns G Y ho hd hcd hmg hobj hints hlen hg => ?_
 have KX:=hY w _ Y
 obtain ⟨fd,hb,hF⟩:=F w mg fa _ KX G.T.g hmg
 exact law_call KX G.T.g G.T.b G.T.builtins G.T.nolimit hg hobj hints (Nat.le_trans hlen hn2) hr hF hb (fun H hO hS=>hsp w H a ns hlen hO hS) fun H e s'=>hCX w H s₁ e s'
noncomputable def inClass (s:Stmt) (j:Nat):Stmt:=match s with
 | .ClassDef _ _ _ body _ _ _ _ _ _ _=>body.getD j (.Pass ⟨0,0,0,0⟩)
 | _ => .Pass ⟨0,0,0,0⟩
noncomputable def defArgs (s:Stmt):Arguments:=match s with
 | .FunctionDef _ a _ _ _ _ _ _ _ _=>a
 | _=>{ posonlyargs := [],args := [],vararg:=none,kwonlyargs := [],kw_defaults := [],kwarg:=none,defaults := [] }
noncomputable def defBody (s:Stmt):List Stmt:=match s with
 | .FunctionDef _ _ b _ _ _ _ _ _ _=>b
 | _ => []
noncomputable def defScope (s:Stmt):Scope:=match s with
 | .FunctionDef _ _ _ _ _ _ sc _ _ _=>sc
 | _=>{ kind := .function,names := [],isGenerator:=false,isCoroutine:=false }
noncomputable abbrev CX0:CXT:=fun _ _ _ _ _ _=>False
noncomputable abbrev E0:XK:=fun _ _ _=>False
theorem zdY {X:Cx}:Passes CX0 X E0:=fun _ _ _ _ _ _ _ h=>h.elim
structure Fun (K:W.Frag) (x qual:Str) (st:Stmt) (f:Addr) (fd:FuncData):Prop where
 ex:∃ (oc:Value) (od:Option Addr) (kV doc pm:Value) (an:Option Addr) (cdv ct:Value) (osl:Array (Option Value)),
  fd=PySem.W.fnOf x qual (defArgs st) (defBody st) (defScope st) .none kV doc pm an cdv ct/\K.lookup f=some ⟨oc,od,.func fd,osl⟩/\PySem.W.codeIn K cdv qual=true
 kp:PySem.W.keepIn K (.ref f)=true
section
variable {P:Program} {w:World} {K:W.Frag} {mg:Str->Option Value} {base:Heap}
theorem Fun.ok {x qual:Str} {st:Stmt} {f:Addr} {fd:FuncData} {N ps:List Str} {k:Nat} {sp:Sp} (F:Fun K x qual st f fd) (S:FnScope N ps (defScope st)) (len:∀ vs H Q E,sp vs H Q E->vs.length=ps.length)
  (hbody:∀ (cdv:Value) (A:Around) (outer:List Env) (s:Shared) (H:Hp) (vs:List V) (Q:VK) (E:XK),Room k (A.deeper (envOfC qual (defScope st) s.heap.objs.size f cdv))->sp vs H Q E ->
   ∃ t,PSs (cxOf CX0 P w K mg base N qual (defScope st) f cdv A outer s H E).nox (defBody st) t/\t { nx:=fun _ H'=>Q .non H',rt:=Q } (start N vs) H):FnOk P w K mg base CX0 (k + 1) f fd ps sp:=by
 obtain ⟨oc,od,kV,doc,pm,an,cdv,ct,osl,rfl,lk,hcd⟩:=F.ex
 refine zgF lk hcd S len fun A outer s H vs Q E hr hsp => ?_
 obtain ⟨t,h,q⟩:=hbody cdv A outer s H vs Q E hr hsp
 exact ⟨t,h.nox,q⟩
theorem Fun.binds {x qual:Str} {st:Stmt} {f:Addr} {fd:FuncData} {ps:List Str} (F:Fun K x qual st f fd)
  (h:∀ (kV doc pm:Value) (an:Option Addr) (cdv ct:Value) (us:List Value),us.length=ps.length->bindArgs (PySem.W.fnOf x qual (defArgs st) (defBody st) (defScope st) .none kV doc pm an cdv ct) ⟨us,[]⟩=pure (ps.zip us)):Binds K fd ps []:=by
 obtain ⟨oc,od,kV,doc,pm,an,cdv,ct,osl,rfl,lk,hcd⟩:=F.ex
 exact .all (h kV doc pm an cdv ct)
theorem zfS {x qual:Str} {st:Stmt} {f:Addr} {oc:Value} {od an:Option Addr} {osl:Array (Option Value)} {kV doc pm cdv ct:Value} (l:K.lookup f=some ⟨oc,od,.func (PySem.W.fnOf x qual (defArgs st) (defBody st) (defScope st) .none kV doc pm an cdv ct),osl⟩)
  (c:PySem.W.codeIn K cdv qual=true) (k:PySem.W.keepIn K (.ref f)=true):Fun K x qual st f (PySem.W.fnOf x qual (defArgs st) (defBody st) (defScope st) .none kV doc pm an cdv ct):=⟨⟨oc,od,kV,doc,pm,an,cdv,ct,osl,rfl,l,c⟩,k⟩
end
theorem zci {A:Around} {k:Nat} (hr:Room k A):A.units + 1 < cLine:=Nat.lt_of_le_of_lt (Nat.add_le_add_left (by decide:1<=64) _) hr.units
section
variable {X:Cx}
theorem pv (i:Nat) {x:Str} {pos:Pos} (hN:X.N[i]?=some x:=by rfl) (hv:Vis X.env.scope x:=by first | exact Or.inl rfl | exact Or.inr (Or.inl rfl) | exact Or.inr (Or.inr rfl)) (hd:(x == ("__debug__" : Str))=false:=by decide)
  (hcd:(x == ("__classdict__" : Str))=false:=by decide):PE X (.Name x pos) (tVar i):=pe_var hN hv hd hcd
theorem zec:CallR X (.builtin "len") (fun xs H Q=>∃ a kvs,xs = [V.ref a]/\H a=some (.dK kvs)/\Q (.int kvs.length) H):=by
 intro pins s σ H xs us Q I r h
 obtain ⟨a,kvs,rfl,ha,q⟩:=h
 obtain ⟨u,rfl,ru⟩:=zbq r
 cases ru
 exact d_len I (.inl ha) fun t s' I'=>⟨.int kvs.length,H,I',⟨t,rfl⟩,q⟩
end
theorem iteF {A B:Prop} (h:B):if false=true then A else B:=by
 rw [if_neg Bool.false_ne_true]
 exact h
theorem iteT {A B:Prop} (h:A):if true=true then A else B:=by
 rw [if_pos rfl]
 exact h
theorem ite2 {c A B:Prop} [Decidable c] (h1:c->A) (h2:¬ c->B):if c then A else B:=by
 by_cases h:c
 ·rw [if_pos h]
  exact h1 h
 ·rw [if_neg h]
  exact h2 h
noncomputable def Same (H H':Hp):Prop:=∀ b o,H b=some o->H' b=some o
theorem Same.refl (H:Hp):Same H H:=fun _ _ h=>h
theorem Same.trans {H H1 H2:Hp} (a:Same H H1) (b:Same H1 H2):Same H H2:=fun c o h=>b c o (a c o h)
theorem Same.free {H H':Hp} (e:Same H H') {l:Addr} (h:H' l=Option.none):H l=Option.none:=by
 cases q:H l with
 | none=>rfl
 | some o =>
  rw [e l o q] at h
  cases h
theorem Same.seq {K:W.Frag} {H H':Hp} {a:Addr} {xs:List V} (e:Same H H') (h:SqL K H a xs):SqL K H' a xs:=by
 rcases h with (h | ⟨o,h⟩) | h
 ·exact .inl (.inl (e _ _ h))
 ·exact .inl (.inr ⟨o,e _ _ h⟩)
 ·exact .inr h
section
variable {κ : Type} [DecidableEq κ]
theorem zfG:∀ {l:List κ} {k : κ},l.Nodup->¬ k∈l->(l ++ [k]).Nodup
 | [],k,_,_=>by simp
 | a :: r,k,h,hk=>by
  obtain ⟨h1,h2⟩:=List.nodup_cons.mp h
  show (a :: (r ++ [k])).Nodup
  refine List.nodup_cons.mpr ⟨fun m => ?_,zfG h2 fun m=>hk (List.mem_cons.mpr (Or.inr m))⟩
  rcases List.mem_append.mp m with q | q
  ·exact h1 q
  ·exact hk (List.mem_cons.mpr (Or.inl (List.mem_singleton.mp q).symm))
end
theorem zcW {κ β : Type} [BEq κ] [LawfulBEq κ] {k : κ} {v : β}:∀ {l:List (κ × β)},l.lookup k=some v->(k,v)∈l
 | [],h=>by simp at h
 | (a,b) :: r,h=>by
  rw [List.lookup_cons] at h
  cases e:k == a with
  | true =>
   rw [e] at h
   simp at h
   rw [eq_of_beq e,h]
   exact List.mem_cons_self
  | false =>
   rw [e] at h
   exact List.mem_cons_of_mem _ (zcW h)
theorem zd2 {κ β : Type} [BEq κ] [LawfulBEq κ] {k : κ} {v : β}:∀ {l:List (κ × β)},(k,v)∈l->∃ w,l.lookup k=some w
 | [],h=>by simp at h
 | (a,b) :: r,h=>by
  rw [List.lookup_cons]
  cases e:k == a with
  | true=>exact ⟨b,rfl⟩
  | false =>
   rcases List.mem_cons.mp h with h | h
   ·injection h with h1 h2
    rw [h1] at e
    simp at e
   ·exact zd2 h
theorem closure_ok {env:Env} {scope:Scope} (h:∀ x∈scope.names,x.2 = .free->∃ c,env.cells.lookup x.1=some c) :
  ∃ cl,closureFor scope env=pure cl/\(∀ x c,(x,c)∈cl->(x,NameKind.free)∈scope.names/\env.cells.lookup x=some c)/\∀ x,(x,NameKind.free)∈scope.names->∃ c,(x,c)∈cl:=by
 have all:∀ (names:List (Str×NameKind)) (acc:List (Str×Addr)),(∀ x∈names,x.2 = .free->∃ c,env.cells.lookup x.1=some c) ->
   ∃ cl:List (Str×Addr),(forIn names acc fun (x:Str×NameKind) (r:List (Str×Addr))=>(if (x.2 == NameKind.free)=true then do let c <- cellOf env x.1; pure (ForInStep.yield ((x.1,c) :: r)) else pure (ForInStep.yield r):Sem (ForInStep (List (Str×Addr)))))=pure cl /\
    (∀ x c,(x,c)∈cl->(x,c)∈acc\/((x,NameKind.free)∈names/\env.cells.lookup x=some c))/\(∀ p∈acc,p∈cl)/\∀ x,(x,NameKind.free)∈names->∃ c,(x,c)∈cl:=by
  intro names
  induction names with
  | nil=>intro acc _; exact ⟨acc,rfl,fun x c h => .inl h,fun p h=>h,fun x h=>by simp at h⟩
  | cons y r ih =>
   intro acc hy
   obtain ⟨n,k⟩:=y
   by_cases hk:k = .free
   ·subst hk
    obtain ⟨c,hc⟩:=hy (n,.free) List.mem_cons_self rfl
    obtain ⟨cl,e,h1,h2,h3⟩:=ih ((n,c) :: acc) fun x hx=>hy x (List.mem_cons_of_mem _ hx)
    refine ⟨cl,?_,fun x d hd => ?_,fun p hp=>h2 p (List.mem_cons_of_mem _ hp),fun x hx => ?_⟩
    ·rw [List.forIn_cons]
     have hcell:cellOf env n=pure c:=by unfold cellOf; rw [hc]
     simp only [beq_self_eq_true,if_true,hcell,pure_bind]
     exact e
    ·rcases h1 x d hd with q | ⟨q1,q2⟩
     ·rcases List.mem_cons.mp q with q | q
      ·injection q with q1 q2
       subst q1 q2
       exact .inr ⟨List.mem_cons_self,hc⟩
      ·exact .inl q
     ·exact .inr ⟨List.mem_cons_of_mem _ q1,q2⟩
    ·rcases List.mem_cons.mp hx with q | q
     ·injection q with q1 _
      subst q1
      exact ⟨c,h2 _ List.mem_cons_self⟩
     ·exact h3 x q
   ·obtain ⟨cl,e,h1,h2,h3⟩:=ih acc fun x hx=>hy x (List.mem_cons_of_mem _ hx)
    refine ⟨cl,?_,fun x d hd=>(h1 x d hd).imp id fun q=>⟨List.mem_cons_of_mem _ q.1,q.2⟩,h2,fun x hx => ?_⟩
    ·rw [List.forIn_cons]
     have hb:(k == NameKind.free)=false:=by simpa using hk
     simp only [hb,Bool.false_eq_true,if_false,pure_bind]
     exact e
    ·rcases List.mem_cons.mp hx with q | q
     ·injection q with _ q2
      exact absurd q2.symm hk
     ·exact h3 x q
 obtain ⟨cl,e,h1,_,h3⟩:=all scope.names [] h
 refine ⟨cl,?_,fun x c q=>(h1 x c q).resolve_left (by simp),h3⟩
 show ((forIn scope.names ([]:List (Str×Addr)) fun (x:Str×NameKind) (r:List (Str×Addr))=>(if (x.2 == NameKind.free)=true then do let c <- cellOf env x.1; pure (ForInStep.yield ((x.1,c) :: r)) else pure (ForInStep.yield r):Sem (ForInStep (List (Str×Addr))))) >>= fun r=>pure r)=pure cl
 rw [e]
 rfl
theorem zba {env:Env}:∀ {names:List (Str×NameKind)} {x:Str},names.lookup x=some .free ->
  (names.map fun (n,k)=>if (k == NameKind.free && env.scope.kind == .function && env.kindOf n == some .cell) then (n,NameKind.cell) else (n,k)).lookup x=some .cell \/
  (names.map fun (n,k)=>if (k == NameKind.free && env.scope.kind == .function && env.kindOf n == some .cell) then (n,NameKind.cell) else (n,k)).lookup x=some .free
 | [],_,h=>by simp at h
 | (n,k) :: r,x,h=>by
  have ih := @zba env r x
  show List.lookup x ((if (k == NameKind.free && env.scope.kind == .function && env.kindOf n == some .cell)=true then (n,NameKind.cell) else (n,k)) :: _)=_\/List.lookup x ((if (k == NameKind.free && env.scope.kind == .function && env.kindOf n == some .cell)=true then (n,NameKind.cell) else (n,k)) :: _)=_
  cases hx:x == n with
  | true =>
   simp only [List.lookup_cons,hx] at h
   cases h
   by_cases hc:(NameKind.free == NameKind.free && env.scope.kind == .function && env.kindOf n == some .cell)=true
   ·rw [if_pos hc]; simp only [List.lookup_cons,hx]; exact .inl trivial
   ·rw [if_neg hc]; simp only [List.lookup_cons,hx]; exact .inr trivial
  | false =>
   simp only [List.lookup_cons,hx] at h
   by_cases hc:(k == NameKind.free && env.scope.kind == .function && env.kindOf n == some .cell)=true
   ·rw [if_pos hc]; simp only [List.lookup_cons,hx]; exact ih h
   ·rw [if_neg hc]; simp only [List.lookup_cons,hx]; exact ih h
noncomputable def cxComp (X:Cx) (scope:Scope) (N:List Str) (cl:List (Str×Addr)) (C:Addr) (s:Shared) (H:Hp) (fp:List Addr) (pn:List (Addr×Obj)):Cx :=
 { X with N:=N,s₀ := s,H₀ := H,env:=compEnvC scope cl C X.env,outer:=X.stack,stack:=X.stack,ex:=fp,fn:=fun _=>false,pn:=pn,xe:=fun _ _=>False }
noncomputable def CapsOk (X:Cx) (scope:Scope):List (Nat×Str)->Prop
 | []=>True
 | p :: r=>(X.N[p.1]?=some p.2/\scope.names.lookup p.2=some .free/\(X.env.scope.names.lookup p.2=some .cell\/X.env.scope.names.lookup p.2=some .free))/\CapsOk X scope r
theorem CapsOk.get {X:Cx} {scope:Scope}:∀ {caps:List (Nat×Str)} {j:Nat} {p:Nat×Str},CapsOk X scope caps->caps[j]?=some p ->
  X.N[p.1]?=some p.2/\scope.names.lookup p.2=some .free/\(X.env.scope.names.lookup p.2=some .cell\/X.env.scope.names.lookup p.2=some .free)
 | [],_,_,_,h=>by simp at h
 | q :: r,0,p,h,e=>by simp at e; subst e; exact h.1
 | q :: r,j + 1,p,h,e=>CapsOk.get h.2 (by simpa using e)
noncomputable def capSt (own:List Str) (caps:List (Nat×Str)) (σ : St):St:=own.map (fun _=>none) ++ caps.map fun p=>(σ[p.1]?).join
noncomputable def CompW (J:It) (D:Addr) (σ0:St) (H1:Hp) (g:TG) (tf:TT) (te:TE) (Q:VK):Prop:=∃ W:Nat->Nat->St->Hp->Prop,
 (∃ m,W 0 m σ0 (upd H1 D (.lst [])))/\∀ i m σ' H',W i m σ' H' ->
  (J.stop i H'/\Q (.ref D) H')\/(J.go i H'/\∀ x H2,J.yld i H' x H2->g x σ' H2 fun σ2 H3=>tf σ2 H3 fun b H4 =>
   if b=true then te σ2 H4 fun v H5=>∃ ys,H5 D=some (.lst ys)/\ys.length < sizeLine/\∃ m',m' < m/\W (i + 1) m' σ2 (upd H5 D (.lst (ys ++ [v])))
   else ∃ m',m' < m/\W (i + 1) m' σ2 H4)
noncomputable def tComp (wi:TI) (own:List Str) (caps:List (Nat×Str)) (g:TG) (tf:TT) (te:TE):TE:=fun σ H Q=>wi σ H fun J H1=>∀ D,H1 D=none->CompW J D (capSt own caps σ) H1 g tf te Q
noncomputable def PTs (X:Cx) (ifs:List Expr) (t:TT):Prop :=
 ∀ (pins:List (Addr×Obj)) (s:Shared) (σ : St) (H:Hp) (Q:Bool->Hp->Prop),Inv X pins σ H s->t σ H Q->wpAny (model X.prog X.w) X.A (forIn ifs true fun c r=>if r=true then do let ok <- isTrue c X.env (eval c X.env); pure (ForInStep.yield ok) else pure (ForInStep.yield r)) (TP X pins σ Q) X.xe s
noncomputable def tTrue:TT:=fun _ H Q=>Q true H
theorem zbE {X:Cx}:PTs X [] tTrue:=fun _ _ _ H _ I h=>wpAny_tests_nil ⟨H,I,h⟩
theorem zdw {X:Cx} {c:Expr} {t:TT} (h:PT X c t):PTs X [c] t:=fun pins s σ H Q I hw=>wpAny_tests_one (h pins s σ H Q I hw)
theorem comp_loop {prog:Program} {w:World} {A:Around} {R:Result->Shared->Prop} {s:Shared} {elt target iter:Expr} {ifs:List Expr} {scope:Scope} {pos:Pos} {it acc:Value} {env:Env} (I:Nat->Shared->Prop)
  (turn:∀ n s,I n s->wpAny (model prog w) A (pyNext it) (fun r s₁ => match r with
   | none=>R (.ok .next) s₁
   | some v=>wpAny (model prog w) A (letOwnedTupleGo target it v) (fun _ s₁'=>wpAny (model prog w) A (assign target env v) (fun _ s₂ =>
     wpAny (model prog w) A (forIn ifs true fun c r=>if r=true then do let ok <- isTrue c env (eval c env); pure (ForInStep.yield ok) else pure (ForInStep.yield r)) (fun ok s₃ =>
      if ok=true then wpAny (model prog w) A (eval elt env) (fun x s₄ =>
       wpAny (model prog w) A (call (.builtin "list.append") [acc,x]) (fun _ s₅ => ∃ m,m < n/\I m s₅) (fun _ _=>False) s₄) (fun _ _=>False) s₃
      else ∃ m,m < n/\I m s₃) (fun _ _=>False) s₂) (fun _ _=>False) s₁') (fun _ _=>False) s₁) (fun _ _=>False) s)
  (n:Nat) (h:I n s) :
  codeAny (model prog w) A (.compLoop (.ListComp elt [⟨target,iter,ifs,0⟩] scope pos) 0 it acc env) R s:=by
 refine codeAny_loop rfl I (fun n s hI => ?_) n h
 show wpAny _ A ((compTurn (.ListComp elt [⟨target,iter,ifs,0⟩] scope pos) 0 it acc env).onRaise (fun x=>do noteFrame x env; theTreesLotGoes x)) _ _ s
 refine wpAny_noted ?_
 rw [compTurn_list]
 refine wpAny_bind (wpAny_standAt (wpAny_bind (wpAny_mono (turn n s hI) (fun r s₁ h₁ => ?_) fun _ _ h'=>h'.elim)))
 cases r with
 | none=>exact wpAny_pure h₁
 | some v =>
  refine wpAny_bind (wpAny_mono h₁ (fun _ s₁' h₁' => ?_) fun _ _ h'=>h'.elim)
  refine wpAny_bind (wpAny_mono h₁' (fun _ s₂ h₂ => wpAny_bind (wpAny_mono h₂ (fun ok s₃ h₃ => ?_) fun _ _ h'=>h'.elim)) fun _ _ h'=>h'.elim)
  cases ok with
  | false=>exact wpAny_pure ⟨rfl,h₃⟩
  | true =>
   exact wpAny_bind (wpAny_bind (wpAny_mono h₃ (fun x s₄ h₄ => wpAny_bind (wpAny_mono h₄ (fun _ s₅ h₅ => wpAny_pure (wpAny_pure ⟨rfl,h₅⟩)) fun _ _ h'=>h'.elim)) fun _ _ h'=>h'.elim))
section
variable {X:Cx} {pins:List (Addr×Obj)} {σ : St}
theorem comp_ok {H2:Hp} {s2:Shared} {fp:List Addr} {scope:Scope} {N:List Str} {cl:List (Str×Addr)} {C:Addr} (I2:Inv X pins σ H2 s2) (f2:∀ b∈fp,FpOk X pins H2 b) (hC:s2.heap.objs.size < C)
  (hfs:∀ b∈fp,b < s2.heap.objs.size) (hkind:scope.kind = .function) (hcl:∀ x c,cl.lookup x=some c->X.env.cells.lookup x=some c)
  (hhas:∀ x,((relabel scope X.env).names.lookup x=some .cell\/(relabel scope X.env).names.lookup x=some .free)->∃ c,cl.lookup x=some c) :
  (cxComp X scope N cl C s2 H2 fp (X.pn ++ pins)).Ok where
 mod:=I2.ok.mod
 kind:=hkind
 glob:=I2.ok.glob
 blt:=I2.ok.blt
 above:=Nat.le_of_lt hC
 inj:=fun x y c h1 h2=>I2.ok.inj x y c (hcl x c h1) (hcl y c h2)
 has:=hhas
 cab:=fun _ _ h _=>by cases h
 hd:=I2.ok.hd
 frames:=I2.ok.frames
 stk := .inl rfl
 exf:=fun b hb=>⟨Nat.ne_of_lt (Nat.lt_trans (hfs b hb) hC),fun x c e=>(f2 b hb).2.2.2.2.1 x c (hcl x c e)⟩
 bs:=I2.bs
 bsz:=Nat.le_trans I2.ok.bsz I2.sz
 noex:=fun b o e hb=>by
  rcases (f2 b hb).2.2.2.1 with z | z
  ·exact I2.ok.noex b o e z
  ·exact absurd (Nat.lt_of_lt_of_le (Heap.lt_size e) (Nat.le_trans I2.ok.bsz z)) (Nat.lt_irrefl _)
 exfs:=fun b hb z=>(List.mem_cons.mp (I2.stkSub b z)).elim (f2 b hb).2.1 (f2 b hb).2.2.1
 funs:=I2.stack
 frf:=I2.stkFree
theorem comp_start {H2:Hp} {s2:Shared} {fp:List Addr} {scope:Scope} {own:List Str} {caps:List (Nat×Str)} {cl:List (Str×Addr)} {D C:Addr} {h1:Heap} {tk:Nat} {m:Str->Option Value}
  (I2:Inv X pins σ H2 s2) (f2:∀ b∈fp,FpOk X pins H2 b) (hC : @Eq Nat C (s2.heap.objs.size + 1)) (hD : @Eq Nat D s2.heap.objs.size)
  (hfs:∀ b∈fp,b < s2.heap.objs.size) (hkind:scope.kind = .function) (hcl:∀ x c,cl.lookup x=some c->X.env.cells.lookup x=some c)
  (hhas:∀ x,((relabel scope X.env).names.lookup x=some .cell\/(relabel scope X.env).names.lookup x=some .free)->∃ c,cl.lookup x=some c)
  (hcap:CapsOk X scope caps) (hns:h1.Ns C m) (old:∀ b o,s2.heap.get? b=some o->h1.get? b=some o) (hlst:∃ n,h1.get? D=some { cls := .type "list",data := .seq #[] n }) :
  Inv (cxComp X scope (own ++ caps.map (·.2)) cl C s2 H2 fp (X.pn ++ pins)) [] (capSt own caps σ) (upd H2 D (.lst [])) { s2 with heap:=h1,toks:=tk }:=by
 have hCs:s2.heap.objs.size < C:=by omega
 have hDn:H2 D=none:=I2.hok.fresh (by omega)
 have hCn:H2 C=none:=I2.hok.fresh (by omega)
 have hCD:C≠D:=by show ¬ @Eq Nat C D; omega
 have hDs:s2.heap.objs.size<=D:=by show @LE.le Nat _ s2.heap.objs.size D; omega
 have new:ObjOk X.prog X.w (upd H2 D (.lst [])) h1 D (.lst []):=let ⟨n,e⟩:=hlst; ⟨Nat.zero_le _,[],n,.nil,e⟩
 refine ⟨comp_ok I2 f2 hCs hfs hkind hcl hhas,rfl,I2.bare,Un.laid old hDs hDn,⟨m,hns,fun i x v e1 e2 e3 => ?_⟩,fun x c e => ?_,?_,fun x c e => ?_,fun p hp => ?_,I2.hok.laid old hDs new,?_⟩
 ·-- a captured name
  have e2':(capSt own caps σ)[i]?=some (some v):=e2
  unfold capSt at e2'
  by_cases hi:i < own.length
  ·rw [List.getElem?_append_left (by simpa using hi),List.getElem?_map] at e2'
   cases q:own[i]? with
   | none=>rw [q] at e2'; cases e2'
   | some y=>rw [q] at e2'; cases e2'
  ·have hle:own.length<=i:=Nat.le_of_not_lt hi
   rw [List.getElem?_append_right (by simpa using hle),List.getElem?_map,List.length_map] at e2'
   have e1':(own ++ caps.map (·.2))[i]?=some x:=e1
   rw [List.getElem?_append_right hle,List.getElem?_map] at e1'
   cases q:caps[i - own.length]? with
   | none=>rw [q] at e2'; cases e2'
   | some p =>
    rw [q] at e2' e1'
    have ex:p.2=x:=Option.some.inj e1'
    have ev:(σ[p.1]?).join=some v:=Option.some.inj e2'
    obtain ⟨hN,hf,hv⟩:=hcap.get q
    have hσ : σ[p.1]?=some (some v):=by
     cases r : σ[p.1]? with
     | none=>rw [r] at ev; cases ev
     | some y=>rw [r] at ev; rw [show y=some v from ev]
    obtain ⟨mX,_,hl⟩:=I2.loc
    obtain ⟨u,ru,lk⟩:=hl p.1 p.2 v hN hσ (.inr hv)
    subst ex
    refine ⟨u,ru,.inr ⟨zba hf,?_⟩⟩
    rcases lk with ⟨k,_⟩ | ⟨_,c,e,z⟩
    ·have k':X.env.scope.names.lookup p.2=some .local:=k
     rw [k'] at hv
     rcases hv with z | z <;> cases z
    ·obtain ⟨c',e'⟩:=hhas p.2 (zba hf)
     have e2:=hcl p.2 c' e'
     rw [e] at e2
     cases e2
     obtain ⟨o,ho,hd⟩:=z
     exact ⟨c,e',o,old c o ho,hd⟩
 ·obtain ⟨v,o,ho,hd⟩:=I2.cell x c (hcl x c e)
  exact ⟨v,o,old c o ho,hd⟩
 ·show upd H2 D (.lst []) C=none
  rw [zah hCD]; exact hCn
 ·obtain ⟨v,q⟩:=I2.cell x c (hcl x c e)
  rw [zah (Nat.ne_of_lt (Nat.lt_of_lt_of_le q.lt hDs))]
  exact I2.freeC x c (hcl x c e)
 ·have hp':p∈X.pn ++ pins:=by
   have hp2:p∈(X.pn ++ pins) ++ []:=hp
   rwa [List.append_nil] at hp2
  obtain ⟨e,n,ne,nf,d⟩:=I2.pin p hp'
  have lt:=Heap.lt_size e
  refine ⟨old p.1 p.2 e,by rw [zah (Nat.ne_of_lt (Nat.lt_of_lt_of_le lt hDs))]; exact n,?_,fun z=>(List.mem_cons.mp (I2.stkSub p.1 z)).elim ne nf,d⟩
  exact Nat.ne_of_lt (Nat.lt_trans lt hCs)
 ·show (capSt own caps σ).length=(own ++ caps.map (·.2)).length
  unfold capSt
  simp
theorem comp_back {H2 H':Hp} {s2 s':Shared} {fp:List Addr} {scope:Scope} {N:List Str} {cl:List (Str×Addr)} {C:Addr} {σ':St} {pn:List (Addr×Obj)} (I2:Inv X pins σ H2 s2) (f2:∀ b∈fp,FpOk X pins H2 b)
  (J:Inv (cxComp X scope N cl C s2 H2 fp pn) [] σ' H' s'):Inv X pins σ H' s' :=
 I2.call' (s':=s') (ch:=fp) J.os J.base J.hok J.bare fun b hb=>⟨(f2 b hb).2.2.2.1,(f2 b hb).2.1,(f2 b hb).2.2.2.2.1,(f2 b hb).2.2.2.2.2⟩
theorem Inv.gone {H:Hp} {s:Shared} {C:Addr} {h':Heap} (I:Inv X pins σ H s) (hs:Heap.SameBut C s.heap h') (hn:H C=none) (h0:X.s₀.heap.objs.size<=C) (hL:C≠X.env.locals) (h2:∀ x c,X.env.cells.lookup x=some c->c≠C) (h3:∀ p∈X.pn ++ pins,p.1≠C) :
  Inv X pins σ H { s with heap:=h' }:=I.turned (t':=s.toks) (fun b o hb e=>(hs.2 b hb).trans e) hn hL (.inr h0) h2 h3
end
theorem free_of_relabel {env:Env} {scope:Scope} {x:Str} (hcell:∀ y∈scope.names,y.2 ≠ .cell) (h:(relabel scope env).names.lookup x=some .cell\/(relabel scope env).names.lookup x=some .free):(x,NameKind.free)∈scope.names:=by
 have all:∀ k,(relabel scope env).names.lookup x=some k->(k = .cell\/k = .free)->(x,NameKind.free)∈scope.names:=by
  intro k e hk
  have m:=zcW e
  obtain ⟨⟨n,j⟩,hm,q⟩:=List.mem_map.mp (show (x,k)∈scope.names.map _ from m)
  dsimp only at q
  by_cases c:(j == NameKind.free && env.scope.kind == .function && env.kindOf n == some .cell)=true
  ·rw [if_pos c] at q
   injection q with q1 q2
   subst q1
   have jf:j = .free:=by
    simp only [Bool.and_eq_true] at c
    exact eq_of_beq c.1.1
   rw [<- jf]; exact hm
  ·rw [if_neg c] at q
   injection q with q1 q2
   subst q1 q2
   rcases hk with z | z
   ·exact absurd z (hcell _ hm)
   ·rw [z] at hm; exact hm
 rcases h with h | h
 ·exact all _ h (.inl rfl)
 ·exact all _ h (.inr rfl)
structure Steps (Y:Cx) (tg:Expr) (J:It) (fp:List Addr) (it:Addr) (tn:Nat->Heap->Prop):Prop where
 item:∀ (i:Nat) (pins:List (Addr×Obj)) (s:Shared) (σ : St) (H:Hp) (E:Value->Shared->Prop),Inv Y pins σ H s->(∀ b∈fp,FpOk Y pins H b)->tn i s.heap->J.go i H ->
  wpAny (model Y.prog Y.w) Y.A (pyNext (.ref it)) (fun r s1=>∃ u,r=some u /\
   wpAny (model Y.prog Y.w) Y.A (letOwnedTupleGo tg (.ref it) u) (fun _ s2=>∃ x H',Inv Y pins σ H' s2/\RelV x u/\J.yld i H x H'/\tn (i + 1) s2.heap/\∀ b∈fp,H' b=none) E s1) E s
 done:∀ (i:Nat) (pins:List (Addr×Obj)) (s:Shared) (σ : St) (H:Hp) (E:Value->Shared->Prop),Inv Y pins σ H s->(∀ b∈fp,FpOk Y pins H b)->tn i s.heap->J.stop i H ->
  wpAny (model Y.prog Y.w) Y.A (pyNext (.ref it)) (fun r s1=>r=none/\Inv Y pins σ H s1) E s
structure Trn (P:Program) (w:World) (K:W.Frag) (Z:Cx->Prop) (tg:Expr) (J:It) (fp:List Addr) (it:Addr) (tn:Nat->Heap->Prop):Prop where
 obj:∀ i h,tn i h->∀ b∈fp,∃ o,h.get? b=some o/\∀ v,o.data ≠ .cell v
 keep:∀ i h h',tn i h->(∀ b∈fp,∀ o,h.get? b=some o->h'.get? b=some o)->tn i h'
 steps:∀ Y:Cx,Y.prog=P->Y.w=w->Y.K=K->Z Y->Steps Y tg J fp it tn
 self:∀ (A:Around) (i:Nat) (s:Shared) (Q:Value->Shared->Prop) (E:Value->Shared->Prop),tn i s.heap->Q (.ref it) s->wpAny (model P w) A (pyIter (.ref it)) Q E s
noncomputable def PIEq (Z:Cx->Prop) (X:Cx) (pins:List (Addr×Obj)) (σ : St) (tg:Expr) (R:It->Hp->Prop) (itv:Value) (s2:Shared):Prop :=
 ∃ (it:Addr) (fp:List Addr) (tn:Nat->Heap->Prop) (J:It) (H':Hp),itv = .ref it/\Inv X pins σ H' s2/\Trn X.prog X.w X.K Z tg J fp it tn/\tn 0 s2.heap/\(∀ b∈fp,FpOk X pins H' b)/\R J H'
noncomputable def PIq (Z:Cx->Prop) (X:Cx) (tg iter:Expr) (wi:TI):Prop :=
 ∀ (pins:List (Addr×Obj)) (s:Shared) (σ : St) (H:Hp) (R:It->Hp->Prop),Inv X pins σ H s->wi σ H R ->
  wpAny (model X.prog X.w) X.A (eval iter X.env) (fun v s1=>wpAny (model X.prog X.w) X.A (pyIter v) (PIEq Z X pins σ tg R) X.xe s1) X.xe s
theorem PI.q {X:Cx} {tg iter:Expr} {wi:TI} (h:PI X tg iter wi):PIq (fun Y=>Y.calm=true) X tg iter wi:=fun pins s σ H R I q =>
 thn (h pins s σ H R I q) fun v s1 h1=>thn h1 fun itv s2 h2=>by
  obtain ⟨it,fp,tn,J,H',e,I',T,t0,f,r⟩:=h2
  exact ⟨it,fp,tn,J,H',e,I',⟨T.obj,T.keep,fun Y hP hw hK hz=>⟨fun i pins s σ H E=>hP ▸ hw ▸ T.item Y hP hw hK hz i pins s σ H E,fun i pins s σ H E=>hP ▸ hw ▸ T.done Y hP hw hK hz i pins s σ H E⟩,T.self⟩,t0,f,r⟩
section
variable {X:Cx} {elt target iter:Expr} {ifs:List Expr} {scope:Scope} {pos:Pos} {own:List Str} {caps:List (Nat×Str)} {wi:TI} {g:TG} {tf:TT} {te:TE}
structure CompScope (X:Cx) (scope:Scope) (caps:List (Nat×Str)):Prop where
 kind:scope.kind = .function
 cell:(scope.names.all fun y => !(y.2 == .cell))=true
 names:(scope.names.all fun y => !(y.2 == .local) || scope.names.lookup y.1 == some .local)=true
 free:(scope.names.all fun y => !(y.2 == .free) || (X.env.scope.names.lookup y.1 == some .cell || X.env.scope.names.lookup y.1 == some .free))=true
 caps:CapsOk X scope caps
theorem comp_core {use:Option (Value->Sem Unit)} {R:Value->Shared->Prop} {pins:List (Addr×Obj)} {σ : St} {s:Shared} {H:Hp} {Q:VK} (Z:Cx->Prop) (hc:∀ cl C s H fp pins,Z (cxComp X scope (own ++ caps.map (·.2)) cl C s H fp (X.pn ++ pins))) (S:CompScope X scope caps) (hi:PIq Z X target iter wi)
  (hg:∀ cl C s H fp pn,PG (cxComp X scope (own ++ caps.map (·.2)) cl C s H fp pn) target g)
  (ht:∀ cl C s H fp pn,PTs (cxComp X scope (own ++ caps.map (·.2)) cl C s H fp pn) ifs tf)
  (he:∀ cl C s H fp pn,PE (cxComp X scope (own ++ caps.map (·.2)) cl C s H fp pn) elt te)
  (I:Inv X pins σ H s) (h:tComp wi own caps g tf te σ H Q)
  (fin:∀ D C H' s' m,Inv X pins σ H' s'->s'.heap.Ns C m->H' C=none->X.s₀.heap.objs.size<=C->C≠X.env.locals->(∀ x c,X.env.cells.lookup x=some c->c≠C)->(∀ p∈X.pn ++ pins,p.1≠C)->Q (.ref D) H' ->
   compPost (model X.prog X.w) X.A X.xe use R (.ref D) C (.ok .next) s')
  (hs:∀ x,foldedSetIterable iter X.env x=pure x) :
  wpAny (model X.prog X.w) X.A (comprehension (.ListComp elt [⟨target,iter,ifs,0⟩] scope pos) scope X.env (firstIterPos [⟨target,iter,ifs,0⟩] pos) (newList []) false (eval iter X.env) use) R X.xe s:=by
 have hcell:∀ y∈scope.names,y.2 ≠ .cell:=fun y hy z=>by
  have:=List.all_eq_true.mp S.cell y hy
  rw [z] at this; cases this
 have hnames:∀ y∈scope.names,y.2 = .local->scope.names.lookup y.1=some .local:=fun y hy z=>by
  have:=List.all_eq_true.mp S.names y hy
  rw [z] at this
  simpa using this
 have hfree:∀ y∈scope.names,y.2 = .free->X.env.scope.names.lookup y.1=some .cell\/X.env.scope.names.lookup y.1=some .free:=fun y hy z=>by
  have:=List.all_eq_true.mp S.free y hy
  rw [z] at this
  simpa using this
 obtain ⟨cl,hclos,hcl0,hcl1⟩:=closure_ok (env:=X.env) (scope:=scope) fun y hy z=>I.ok.has y.1 (hfree y hy z)
 have hcl:∀ x c,cl.lookup x=some c->X.env.cells.lookup x=some c:=fun x c e=>(hcl0 x c (zcW e)).2
 have hhas:∀ x,((relabel scope X.env).names.lookup x=some .cell\/(relabel scope X.env).names.lookup x=some .free)->∃ c,cl.lookup x=some c:=fun x hx=>by
  obtain ⟨c,hm⟩:=hcl1 x (free_of_relabel hcell hx)
  exact zd2 hm
 refine wpAny_comprehension_free (g:=⟨target,iter,ifs,0⟩) (gs := []) rfl hs hclos S.kind hnames (thn (hi pins s σ H _ I h) fun v s1 h1=>thn h1 fun itv s2 h2 => ?_)
 obtain ⟨it,fp,tn,J,H2,e,I2,T,st2,f2,cont⟩:=h2
 subst e
 obtain ⟨W,⟨m0,w0⟩,turn⟩:=cont s2.heap.objs.size (I2.hok.fresh (Nat.le_refl _))
 refine wpAny_newObj_type (wpAny_newFunctionEnv hcell (by intro y hy; simp at hy) (fun h₁ hns₁ hsb₁ => ?_) S.kind)
 dsimp only at hns₁ hsb₁ ⊢
 generalize hH2:s2.heap.push { cls := .type "list",dict:=none,data := .seq ([]:List Value).toArray }=HL at hns₁ hsb₁ ⊢
 have hC:HL.objs.size=s2.heap.objs.size + 1:=by rw [<- hH2,Heap.size_push]
 have hfs:∀ b∈fp,b < s2.heap.objs.size:=fun b hb=>let ⟨_,e,_⟩:=T.obj 0 _ st2 b hb; Heap.lt_size e
 have old:∀ b o,s2.heap.get? b=some o->h₁.get? b=some o:=fun b o e =>
  hsb₁.extBut b o (by rw [hC]; exact Nat.ne_of_lt (Nat.lt_succ_of_lt (Heap.lt_size e))) (Heap.get?_push_of_some _ (hH2 ▸ Heap.get?_push_of_some _ e))
 have hlst:∃ n,h₁.get? s2.heap.objs.size=some { cls := .type "list",data := .seq #[] n }:=⟨_,hsb₁.extBut _ _ (by rw [hC]; exact Nat.ne_of_lt (Nat.lt_succ_self _)) (Heap.get?_push_of_some _ (hH2 ▸ Heap.get?_push_size _ rfl))⟩
 have I4:Inv (cxComp X scope (own ++ caps.map (·.2)) cl HL.objs.size s2 H2 fp (X.pn ++ pins)) [] (capSt own caps σ) (upd H2 s2.heap.objs.size (.lst [])) { s2 with heap:=h₁,toks:=s2.toks + ([]:List (Str×Value)).length } :=
  comp_start I2 f2 hC rfl hfs S.kind hcl hhas S.caps hns₁ old hlst
 have st4:tn 0 h₁ := T.keep 0 _ _ st2 fun b hb o e=>old b o e
 have fr4:∀ b∈fp,upd H2 s2.heap.objs.size (.lst []) b=none:=fun b hb=>by
  rw [zah (Nat.ne_of_lt (hfs b hb))]; exact (f2 b hb).1
 have hCs:s2.heap.objs.size < HL.objs.size:=by rw [hC]; exact Nat.lt_succ_self _
 have loop:codeAny (model X.prog X.w) X.A (.compLoop (.ListComp elt [⟨target,iter,ifs,0⟩] scope pos) 0 (.ref it) (.ref s2.heap.objs.size) (compEnvC scope cl HL.objs.size X.env))
   (compPost (model X.prog X.w) X.A X.xe use R (.ref s2.heap.objs.size) HL.objs.size) { s2 with heap:=h₁,toks:=s2.toks + ([]:List (Str×Value)).length }:=by
  refine comp_loop (fun n s'=>∃ i σ' H',Inv (cxComp X scope (own ++ caps.map (·.2)) cl HL.objs.size s2 H2 fp (X.pn ++ pins)) [] σ' H' s'/\tn i s'.heap/\(∀ b∈fp,H' b=none)/\W i n σ' H') ?_ m0 ⟨0,_,_,I4,st4,fr4,w0⟩
  have U:=T.steps (cxComp X scope (own ++ caps.map (·.2)) cl HL.objs.size s2 H2 fp (X.pn ++ pins)) rfl rfl rfl (hc _ _ _ _ _ _)
  rintro n s3 ⟨i,σ3,H3,I3,st3,fr3,w3⟩
  have stat:∀ {H':Hp},(∀ b∈fp,H' b=none)->∀ b∈fp,FpOk (cxComp X scope (own ++ caps.map (·.2)) cl HL.objs.size s2 H2 fp (X.pn ++ pins)) [] H' b:=fun {H'} hn b hb=>by
   refine ⟨hn b hb,(I3.ok.exf b hb).1,I3.ok.exfs b hb,.inl hb,(I3.ok.exf b hb).2,fun p hp => ?_⟩
   have hp':p∈X.pn ++ pins:=by
    have hp2:p∈(X.pn ++ pins) ++ []:=hp
    rwa [List.append_nil] at hp2
   exact (f2 b hb).2.2.2.2.2 p hp'
  rcases turn i n σ3 H3 w3 with ⟨stop,qn⟩ | ⟨go,step⟩
  ·refine thn (U.done i [] s3 σ3 H3 _ I3 (stat fr3) st3 stop) fun r s4 ⟨hr,I4⟩ => ?_
   subst hr
   obtain ⟨m,hm,_⟩:=I4.loc
   refine fin s2.heap.objs.size HL.objs.size H3 s4 m (comp_back I2 f2 I4) hm I4.free (Nat.le_trans I2.sz (Nat.le_of_lt hCs)) (Nat.ne_of_gt (Nat.lt_trans I2.lt hCs)) (fun x c e z => ?_) (fun p hp z => ?_) qn
   ·obtain ⟨v,q⟩:=I2.cell x c e
    exact absurd (Nat.lt_trans q.lt hCs) (by rw [z]; exact Nat.lt_irrefl _)
   ·exact absurd (Nat.lt_trans (Heap.lt_size (I2.pin p hp).1) hCs) (by rw [z]; exact Nat.lt_irrefl _)
  ·refine thn (U.item i [] s3 σ3 H3 _ I3 (stat fr3) st3 go) fun r s4 ⟨u,hr,h4⟩ => ?_
   subst hr
   refine thn h4 fun _ s5 ⟨x,H5,I5,r5,y5,st5,fr5⟩ => ?_
   have I5':=I5.pinned (stat fr5) (T.obj _ _ st5)
   refine thn (hg cl HL.objs.size s2 H2 fp (X.pn ++ pins) _ s5 σ3 H5 x u _ I5' r5 (step x H5 y5)) fun _ s6 ⟨σ6,H6,I6,q6⟩ => ?_
   refine thn (ht cl HL.objs.size s2 H2 fp (X.pn ++ pins) _ s6 σ6 H6 _ I6 q6) fun b s7 ⟨H7,I7,q7⟩ => ?_
   have again:∀ {σ8:St} {H8:Hp} {s8:Shared} {m':Nat},Inv (cxComp X scope (own ++ caps.map (·.2)) cl HL.objs.size s2 H2 fp (X.pn ++ pins)) ([] ++ pinsAt fp s5.heap) σ8 H8 s8->m' < n->W (i + 1) m' σ8 H8 ->
     ∃ m,m < n/\∃ i σ' H',Inv (cxComp X scope (own ++ caps.map (·.2)) cl HL.objs.size s2 H2 fp (X.pn ++ pins)) [] σ' H' s8/\tn i s8.heap/\(∀ b∈fp,H' b=none)/\W i m σ' H':=fun {σ8 H8 s8 m'} I8 hm w8=>by
    refine ⟨m',hm,i + 1,σ8,H8,I8.unpinned,T.keep _ _ _ st5 fun b hb o e=>(I8.pin (b,o) (List.mem_append_right _ (List.mem_append_right _ (zbM hb e)))).1,fun b hb => ?_,w8⟩
    obtain ⟨o,e,d⟩:=T.obj _ _ st5 b hb
    exact (I8.pin (b,o) (List.mem_append_right _ (List.mem_append_right _ (zbM hb e)))).2.1
   cases b with
   | false =>
    rw [if_neg Bool.false_ne_true] at q7 ⊢
    obtain ⟨m',hm,w7⟩:=q7
    exact again I7 hm w7
   | true =>
    rw [if_pos rfl] at q7 ⊢
    refine thnE (he cl HL.objs.size s2 H2 fp (X.pn ++ pins) _ s7 σ6 H7 _ I7 q7) fun y s8 v H8 I8 r8 ⟨ys,hy,hz,m',hm,w8⟩ => ?_
    refine thn (zaM _ s8 σ6 H8 (.ref s2.heap.objs.size) [v] (.ref s2.heap.objs.size) [y] (fun _ H9=>H9=upd H8 s2.heap.objs.size (.lst (ys ++ [v]))) I8 rfl (.cons r8 .nil) ⟨_,ys,v,rfl,rfl,hy,hz,rfl⟩) fun z s9 ⟨_,H9,I9,_,e9⟩ => ?_
    subst e9
    exact again I9 hm w8
 exact codeAny_compStart_list loop (T.self _ 0 _ _ _ st4 loop)
theorem za7 (hc:X.calm=true) (S:CompScope X scope caps) (hi:PI X target iter wi)
  (hg:∀ cl C s H fp pn,PG (cxComp X scope (own ++ caps.map (·.2)) cl C s H fp pn) target g)
  (ht:∀ cl C s H fp pn,PTs (cxComp X scope (own ++ caps.map (·.2)) cl C s H fp pn) ifs tf)
  (he:∀ cl C s H fp pn,PE (cxComp X scope (own ++ caps.map (·.2)) cl C s H fp pn) elt te)
  (hs:∀ x,foldedSetIterable iter X.env x=pure x:=by intro _; rfl):PE X (.ListComp elt [⟨target,iter,ifs,0⟩] scope pos) (tComp wi own caps g tf te):=by
 intro pins s σ H Q I h
 rw [eval_ListComp]
 refine comp_core (Q:=Q) (fun Y=>Y.calm=true) (fun _ _ _ _ _ _=>hc) S hi.q hg ht he I h (fun D C H' s' m I' hm hn h0 hL h2 h3 q => ?_) hs
 exact ⟨m,hm,fun h' hs'=>⟨.ref D,H',I'.gone hs' hn h0 hL h2 h3,rfl,q⟩⟩
end
noncomputable def sgn (c:Nat):V := .str ⟨#[c]⟩
noncomputable def Its (x:Str):It:=⟨fun i _=>i < x.cps.size,fun i H v H'=>H'=H/\∃ c,x.cps[i]?=some c/\v=sgn c,fun i _=>i=x.cps.size⟩
theorem zeE {P:Program} {w:World} {K:W.Frag} {tg:Expr} (it:Addr) (x:Str) (t:Tok) (ty:String)
  (hty : ["enumerate","zip","dict_itemiterator","dict_reverseitemiterator","odict_iterator","itertools.zip_longest","itertools.pairwise"].contains ty=false)
  (W:∀ A:Around,A.handled=none->Walks P w A it [it] [it] x.cps.size (SignAt x) (fun i h=>h.IsStrIter it ty x t i))
  (sf:∀ (A:Around) (i:Nat) (s:Shared) (Q:Value->Shared->Prop) (E:Value->Shared->Prop),s.heap.IsStrIter it ty x t i->Q (.ref it) s->wpAny (model P w) A (pyIter (.ref it)) Q E s) :
  Turn P w K tg (Its x) [it] it (fun i h=>h.IsStrIter it ty x t i) where
 mem:=by simp
 obj:=fun i h st b hb=>by
  have e:b=it:=by simpa using hb
  subst e
  obtain ⟨o,e,c,d⟩:=st
  exact ⟨o,e,fun v z=>by rw [d] at z; cases z⟩
 keep:=fun i h h' st k=>by
  obtain ⟨o,e,r⟩:=st
  exact ⟨o,k it (by simp) o e,r⟩
 item:=by
  intro X hP hw hK hc i pins s σ H E I hf st hg
  subst hP hw hK
  obtain ⟨f0,f1,f2,f3,f4,f5⟩:=hf it (by simp)
  refine (W X.A (I.ok.hd hc)).item i s _ _ hg st fun v h' tk hv st' kk => ?_
  obtain ⟨c,u,hc',rfl⟩:=hv
  have I1:Inv X pins σ H { s with heap:=h',toks:=tk }:=I.turned (fun b o hb e=>kk b o (by simpa using hb) e) f0 f1 f3 f4 f5
  obtain ⟨o,e,cc,d⟩:=id st'
  exact ⟨_,rfl,zf7 (s:={ s with heap:=h',toks:=tk }) e cc d hty ⟨sgn c,H,I1,⟨u,rfl⟩,⟨rfl,c,hc',rfl⟩,st',fun b hb=>(hf b hb).1⟩⟩
 done:=by
  intro X hP hw hK hc i pins s σ H E I hf st hg
  subst hP hw hK
  obtain ⟨f0,f1,f2,f3,f4,f5⟩:=hf it (by simp)
  have hi:i=x.cps.size:=hg
  subst hi
  exact (W X.A (I.ok.hd hc)).done s _ _ st fun h' tk kk=>⟨rfl,I.turned (fun b o hb e=>kk b o (by simpa using hb) e) f0 f1 f3 f4 f5⟩
 self:=fun A i s Q E st h=>sf A i s Q E st h
section
variable {X:Cx} {tg:Expr}
noncomputable def iStr (tl:TE):TI:=fun σ H R=>tl σ H fun v H1=>∃ x,v = .str x/\R (Its x) H1
theorem zgc {l:Expr} {tl:TE} (hl:PE X l tl):PI X tg l (iStr tl):=by
 intro pins s σ H R I h
 refine thnE (hl pins s σ H _ I h) fun v s1 y H1 I1 r1 q1 => ?_
 obtain ⟨x,e,q⟩:=q1
 subst e
 obtain ⟨t,rfl⟩:=r1
 have hf:∀ o:Obj,∀ b ∈ [s1.heap.objs.size],FpOk X pins H1 b:=fun o b hb=>by
  have e:b=s1.heap.objs.size:=by simpa using hb
  subst e
  exact I1.fpOk (Nat.le_refl _) (I1.hok.fresh (Nat.le_refl _))
 cases ha:x.cps.all (· < 128)
 ·exact wpAny_pyIter_wide ha ⟨s1.heap.objs.size,[s1.heap.objs.size],_,_,H1,rfl,I1.kept (t':=s1.toks) fun b o e=>Heap.get?_push_of_some _ e,
   zeE _ x t "str_iterator" (by decide) (fun A hA=>Walks.strWide hA _ x t) (fun A i s Q E st h=>wpAny_pyIter_striter_wide st h),⟨_,Heap.get?_push_size _ rfl,rfl,rfl⟩,hf default,q⟩
 ·exact wpAny_pyIter_ascii ha ⟨s1.heap.objs.size,[s1.heap.objs.size],_,_,H1,rfl,I1.kept (t':=s1.toks) fun b o e=>Heap.get?_push_of_some _ e,
   zeE _ x t "str_ascii_iterator" (by decide) (fun A hA=>Walks.strAscii hA _ x t) (fun A i s Q E st h=>wpAny_pyIter_striter_ascii st h),⟨_,Heap.get?_push_size _ rfl,rfl,rfl⟩,hf default,q⟩
end
structure Gives (J:It) (Ok:Hp->Prop) (L:List V):Prop where
 go:∀ i H,Ok H->i < L.length->J.go i H
 yld:∀ i H x H',Ok H->J.yld i H x H'->i < L.length->H'=H/\L[i]?=some x
 stop:∀ H,Ok H->J.stop L.length H
theorem zbd (lo:Int) (n:Nat):Gives (Itr lo n) (fun _=>True) ((List.range n).map fun i=>V.int (lo + (i:Nat))) where
 go:=fun i H _ h=>by
  have:i < n:=by simpa using h
  exact this
 yld:=fun i H x H' _ y h=>by
  obtain ⟨e,rfl⟩:=y
  have:i < n:=by simpa using h
  exact ⟨e,by simp [this]⟩
 stop:=fun H _=>by
  show n<=_
  simp
theorem zd8 (x:Str):Gives (Its x) (fun _=>True) (x.cps.toList.map sgn) where
 go:=fun i H _ h=>by
  have:i < x.cps.size:=by simpa using h
  exact this
 yld:=fun i H v H' _ y h=>by
  obtain ⟨e,c,hc,rfl⟩:=y
  refine ⟨e,?_⟩
  rw [List.getElem?_map]
  simp [hc]
 stop:=fun H _=>by
  show _=x.cps.size
  simp
theorem zar (K:W.Frag) (a:Addr) (xs:List V):Gives (Itl K a) (fun H=>SqL K H a xs) xs where
 go:=fun i H q h=>⟨xs,xs[i],q,by simp [h]⟩
 yld:=fun i H v H' q y h=>⟨y.1,y.2 xs q⟩
 stop:=fun H q=>⟨xs,q,Nat.le_refl _⟩
theorem zcr {J:It} {Ok:Hp->Prop} {L:List V} {g:TG} {tb:TS} {D:Ends} {σ : St} {H:Hp} (G:Gives J Ok L) (Pv:Nat->St->Hp->Prop) (h0:Pv 0 σ H) (hk:∀ i σ H,i<=L.length->Pv i σ H->Ok H)
  (hs:∀ i x σ H,L[i]?=some x->Pv i σ H->g x σ H fun σ2 H2=>tb { D with nx:=Pv (i + 1),ct:=Pv (i + 1),bk:=D.nx } σ2 H2) (hd:∀ σ H,Pv L.length σ H->D.nx σ H) :
  ∃ W:Nat->Nat->St->Hp->Prop,(∃ m,W 0 m σ H)/\∀ i m σ H,W i m σ H ->
   (J.stop i H/\D.nx σ H)\/(J.go i H/\∃ N:St->Hp->Prop,(∀ σ' H',N σ' H'->∃ m',m' < m/\W (i + 1) m' σ' H')/\∀ x H',J.yld i H x H'->g x σ H' fun σ2 H2=>tb { D with nx:=N,ct:=N,bk:=D.nx } σ2 H2):=by
 refine ⟨fun i m σ H=>m=L.length - i/\i<=L.length/\Pv i σ H,⟨L.length,by simp,Nat.zero_le _,h0⟩,?_⟩
 rintro i m σ H ⟨rfl,hi,p⟩
 have q:=hk i σ H hi p
 by_cases hlt:i < L.length
 ·refine .inr ⟨G.go i H q hlt,Pv (i + 1),fun σ' H' p'=>⟨L.length - (i + 1),by omega,rfl,hlt,p'⟩,fun x H' y => ?_⟩
  obtain ⟨e,yy⟩:=G.yld i H x H' q y hlt
  subst e
  exact hs i x σ _ yy p
 ·have e:i=L.length:=by omega
  subst e
  exact .inl ⟨G.stop H q,hd σ H p⟩
noncomputable def CNext (D:Addr) (L:List V) (Pv:Nat->List V->St->Hp->Prop) (i:Nat) (σ2:St) (v:V) (H5:Hp):Prop :=
 ∃ ys,H5 D=some (.lst ys)/\ys.length < sizeLine/\∃ m',m' < L.length - i/\(m'=L.length - (i + 1)/\i + 1<=L.length/\∃ xs,Pv (i + 1) xs σ2 (upd H5 D (.lst (ys ++ [v]))))
noncomputable def CSkip (L:List V) (Pv:Nat->List V->St->Hp->Prop) (i:Nat) (σ2:St) (H4:Hp):Prop :=
 ∃ m',m' < L.length - i/\(m'=L.length - (i + 1)/\i + 1<=L.length/\∃ xs,Pv (i + 1) xs σ2 H4)
theorem CNext.of {D:Addr} {L:List V} {Pv:Nat->List V->St->Hp->Prop} {i:Nat} {σ2:St} {v:V} {H5:Hp} {xs:List V} (hi:i < L.length) (hL:L.length<=sizeLine) (h5:H5 D=some (.lst xs)) (hx:xs.length<=i) (p:Pv (i + 1) (xs ++ [v]) σ2 (upd H5 D (.lst (xs ++ [v])))):CNext D L Pv i σ2 v H5 :=
 ⟨xs,h5,by omega,L.length - (i + 1),by omega,rfl,hi,_,p⟩
theorem CSkip.of {L:List V} {Pv:Nat->List V->St->Hp->Prop} {i:Nat} {σ2:St} {H4:Hp} {xs:List V} (hi:i < L.length) (p:Pv (i + 1) xs σ2 H4):CSkip L Pv i σ2 H4:=⟨L.length - (i + 1),by omega,rfl,hi,_,p⟩
theorem zf1 {J:It} {Ok:Hp->Prop} {L:List V} {g:TG} {tf:TT} {te:TE} {D:Addr} {σ0:St} {H1:Hp} {Q:VK} (G:Gives J Ok L) (Pv:Nat->List V->St->Hp->Prop) (h0:Pv 0 [] σ0 (upd H1 D (.lst [])))
  (hk:∀ i xs σ H,i<=L.length->Pv i xs σ H->Ok H)
  (hs:∀ i x xs σ H,i < L.length->L[i]?=some x->Pv i xs σ H->g x σ H fun σ2 H3=>tf σ2 H3 fun b H4=>if b=true then te σ2 H4 fun v H5=>CNext D L Pv i σ2 v H5 else CSkip L Pv i σ2 H4)
  (hd:∀ xs σ H,Pv L.length xs σ H->Q (.ref D) H) :
  CompW J D σ0 H1 g tf te Q:=by
 refine ⟨fun i m σ H=>m=L.length - i/\i<=L.length/\∃ xs,Pv i xs σ H,⟨L.length,by simp,Nat.zero_le _,[],h0⟩,?_⟩
 rintro i m σ H ⟨rfl,hi,xs,p⟩
 have q:=hk i xs σ H hi p
 by_cases hlt:i < L.length
 ·refine .inr ⟨G.go i H q hlt,fun x H' y => ?_⟩
  obtain ⟨e,yy⟩:=G.yld i H x H' q y hlt
  subst e
  exact hs i x xs σ _ hlt yy p
 ·have e:i=L.length:=by omega
  subst e
  exact .inl ⟨G.stop H q,hd xs σ H p⟩
theorem Same.put {H0 H:Hp} {p:Addr} {o:HO} (s:Same H0 H) (n:H0 p=none):Same H0 (upd H p o):=fun b u e=>by
 rw [zah (zai e n)]
 exact s b u e
theorem Same.new {H:Hp} {p:Addr} {o:HO} (n:H p=none):Same H (upd H p o):=(Same.refl H).put n
theorem Same.tup {K:W.Frag} {H H':Hp} {a:Addr} {xs:List V} (e:Same H H') (h:SqT K H a xs):SqT K H' a xs:=by
 rcases h with (h | ⟨o,h⟩) | h
 ·exact .inl (.inl (e _ _ h))
 ·exact .inl (.inr ⟨o,e _ _ h⟩)
 ·exact .inr h
theorem zaC {α : Type} {l:List α} {i:Nat} {x : α} (h:l[i]?=some x):l.take (i + 1)=l.take i ++ [x]:=by
 rw [List.take_add_one,h]
 rfl
theorem zdn {J:It} {Ok:Hp->Prop} {L:List V} {tf:TT} {te:TE} {D:Addr} {σ0 capv:St} {H1:Hp} {Q:VK} (hσ : σ0=none :: capv) (G:Gives J Ok L) (hL:L.length<=sizeLine) (hD:H1 D=none) (hOk:∀ H,Same H1 H->Ok H) (p:V->Bool) (F:V->V)
  (ht:∀ x∈L,∀ H R,Same H1 H->(∀ H',Same H H'->R (p x) H')->tf (some x :: capv) H R)
  (he:∀ x∈L,p x=true->∀ H R,Same H1 H->(∀ H',Same H H'->R (F x) H')->te (some x :: capv) H R)
  (hd:∀ H,Same H1 H->H D=some (.lst ((L.filter p).map F))->Q (.ref D) H) :
  CompW J D σ0 H1 (gName 0) tf te Q:=by
 subst hσ
 refine zf1 G (fun i xs σ H=>(∃ o,σ = o :: capv)/\Same H1 H/\H D=some (.lst xs)/\xs=((L.take i).filter p).map F) ⟨⟨none,rfl⟩,Same.new hD,zac,by simp⟩ (fun i xs σ H _ h=>hOk H h.2.1) ?_ ?_
 ·rintro i x xs σ H hi hx ⟨⟨o,rfl⟩,s,e,exs⟩
  have hm:x∈L:=List.mem_of_getElem? hx
  have hxl:xs.length<=i:=by
   rw [exs,List.length_map]
   exact Nat.le_trans (List.length_filter_le _ _) (by rw [List.length_take]; omega)
  show tf (some x :: capv) H _
  refine ht x hm H _ s fun H' s' => ?_
  cases hp:p x with
  | true =>
   rw [if_pos rfl]
   refine he x hm hp H' _ (s.trans s') fun H'' s'' => ?_
   have e'':H'' D=some (.lst xs):=s'' _ _ (s' _ _ e)
   refine CNext.of hi hL e'' hxl ⟨⟨some x,rfl⟩,((s.trans s').trans s'').put hD,zac,?_⟩
   rw [zaC hx,List.filter_append,List.map_append,exs]
   simp [hp]
  | false =>
   rw [if_neg Bool.false_ne_true]
   refine CSkip.of hi ⟨⟨some x,rfl⟩,s.trans s',s' _ _ e,?_⟩
   rw [zaC hx,List.filter_append,List.map_append,exs]
   simp [hp]
 ·rintro xs σ H ⟨_,s,e,exs⟩
  refine hd H s ?_
  rw [e,exs,List.take_length]
theorem zcI {P:Program} {w:World} {A:Around} {E:Value->Shared->Prop} {s:Shared} {a:Addr} {its:List Value} {Q:Value->Shared->Prop} (hh:A.handled=none) (hl:s.heap.IsList a its.toArray)
  (h:∀ (I:Addr) (s2:Shared),s2={ s with heap:=s.heap.push { cls := .type "list_iterator",data := .fields #[.ref a,.int 0 0] } }->I=s.heap.objs.size ->
   Walks P w A I [I,a] [I] its.length (fun i v=>its[i]?=some v) (fun i h=>h.IsListIter I a i/\h.IsList a its.toArray)->(s2.heap.IsListIter I a 0/\s2.heap.IsList a its.toArray)->(∀ b ∈ [I,a],b < s2.heap.objs.size) ->
   (∀ h':Heap,(∀ b o,b ∉ [I]->s2.heap.get? b=some o->h'.get? b=some o)->∀ b o,s.heap.get? b=some o->h'.get? b=some o)->Q (.ref I) s2) :
  wpAny (model P w) A (pyIter (.ref a)) Q E s:=by
 have hlt:a < s.heap.objs.size:=by obtain ⟨_,e,_⟩:=hl; exact Heap.lt_size e
 refine wpAny_pyIter_list hl (h _ _ rfl rfl ?_ ⟨⟨_,Heap.get?_push_size _ rfl,rfl,rfl⟩,hl.push _⟩ (fun b hb => ?_) (fun h' k b o e=>k b o ?_ (Heap.get?_push_of_some _ e)))
 ·have W:=Walks.list (prog:=P) (w:=w) (A:=A) hh s.heap.objs.size a (Nat.ne_of_lt hlt) its.toArray
  simpa using W
 ·show b < (s.heap.push _).objs.size
  rw [Heap.size_push]
  rcases List.mem_cons.mp hb with rfl | hb
  ·exact Nat.lt_succ_self _
  ·have e:b=a:=by simpa using hb
   subst e
   exact Nat.lt_succ_of_lt hlt
 ·intro z
  have e2:b=s.heap.objs.size:=by simpa using z
  subst e2
  exact absurd (Heap.lt_size e) (Nat.lt_irrefl _)
theorem zeC {xs:List V} {us:List Value} (r:Vals xs us) {i:Nat} {u:Value} (h:us[i]?=some u):∃ x,xs[i]?=some x/\RelV x u:=by
 have hi:i < xs.length:=by rw [r.length]; exact (List.getElem?_eq_some_iff.mp h).1
 obtain ⟨u',hu,ru⟩:=r.get (x:=xs[i]) (i:=i) (by simp [hi])
 rw [h] at hu
 cases hu
 exact ⟨_,by simp [hi],ru⟩
theorem range_all_map (bs:List Bool):(List.range bs.length).all (fun i=>bs.getD i false)=bs.all id:=by
 rw [Bool.eq_iff_iff,List.all_eq_true,List.all_eq_true]
 constructor
 ·intro h x hx
  obtain ⟨i,hi,e⟩:=List.mem_iff_getElem.mp hx
  have:=h i (List.mem_range.mpr hi)
  simp only [List.getD_eq_getElem?_getD,hi,getElem?_pos,Option.getD_some,e] at this
  exact this
 ·intro h i hi
  have hi':=List.mem_range.mp hi
  simp only [List.getD_eq_getElem?_getD,hi',getElem?_pos,Option.getD_some]
  exact h _ (List.getElem_mem hi')
theorem range_any_map (bs:List Bool):(List.range bs.length).any (fun i=>bs.getD i false)=bs.any id:=by
 rw [Bool.eq_iff_iff,List.any_eq_true,List.any_eq_true]
 constructor
 ·rintro ⟨i,hi,h⟩
  have hi':=List.mem_range.mp hi
  simp only [List.getD_eq_getElem?_getD,hi',getElem?_pos,Option.getD_some] at h
  exact ⟨_,List.getElem_mem hi',h⟩
 ·rintro ⟨x,hx,h⟩
  obtain ⟨i,hi,e⟩:=List.mem_iff_getElem.mp hx
  refine ⟨i,List.mem_range.mpr hi,?_⟩
  simp only [List.getD_eq_getElem?_getD,hi,getElem?_pos,Option.getD_some,e]
  exact h
section
variable {X:Cx}
theorem zeF {P:Program} {w:World} {A:Around} {bs:List Bool} {its:List Value} (r:Vals (bs.map V.bl) its):TruthOf P w A (fun i v=>its[i]?=some v) (fun i=>bs.getD i false):=by
 intro i v s Q E hv q
 obtain ⟨x,hx,rx⟩:=zeC r hv
 rw [List.getElem?_map] at hx
 cases e:bs[i]? with
 | none=>rw [e] at hx; cases hx
 | some b =>
  rw [e] at hx
  cases hx
  cases (show v=Value.bool b from rx)
  refine wpAny_truthy_bool ?_
  have eb:bs.getD i false=b:=by rw [List.getD_eq_getElem?_getD,e]; rfl
  rw [<- eb]
  exact q
theorem zfb (hc:X.calm=true):CallR X (.builtin "all") (fun xs H Q=>∃ (a:Addr) (bs:List Bool),xs = [V.ref a]/\SqL X.K H a (bs.map V.bl)/\Q (.bl (bs.all id)) H):=by
 intro pins s σ H xs us Q I r h
 obtain ⟨a,bs,rfl,hq,q⟩:=h
 obtain ⟨u,rfl,ru⟩:=zbq r
 cases ru
 obtain ⟨its,rv,p,hz⟩:=I.list hq
 refine call_all_walk (zcI (A:=X.A.in1) (I.ok.hd hc) p.isList fun It s2 e2 eI W st hf old => ?_)
 have hl:bs.length=its.length:=by have:=rv.length; rwa [List.length_map] at this
 refine ⟨It,_,_,its.length,_,_,_,rfl,W,st,zeF rv,fun h' tk k => ?_⟩
 subst e2
 rw [<- hl,range_all_map]
 exact ⟨.bl _,H,I.kept (t':=tk) (old h' k),rfl,q⟩
theorem zfa (hc:X.calm=true):CallR X (.builtin "any") (fun xs H Q=>∃ (a:Addr) (bs:List Bool),xs = [V.ref a]/\SqL X.K H a (bs.map V.bl)/\Q (.bl (bs.any id)) H):=by
 intro pins s σ H xs us Q I r h
 obtain ⟨a,bs,rfl,hq,q⟩:=h
 obtain ⟨u,rfl,ru⟩:=zbq r
 cases ru
 obtain ⟨its,rv,p,hz⟩:=I.list hq
 refine call_any_walk (zcI (A:=X.A.in1) (I.ok.hd hc) p.isList fun It s2 e2 eI W st hf old => ?_)
 have hl:bs.length=its.length:=by have:=rv.length; rwa [List.length_map] at this
 refine ⟨It,_,_,its.length,_,_,_,rfl,W,st,zeF rv,fun h' tk k => ?_⟩
 subst e2
 rw [<- hl,range_any_map]
 exact ⟨.bl _,H,I.kept (t':=tk) (old h' k),rfl,q⟩
theorem zdF:∀ {ns:List Int} {its:List Value},Vals (ns.map V.int) its->IntsAre its ns
 | [],_,r=>by rw [List.map_nil] at r; cases r; exact .nil
 | n :: ns,_,r=>by
  rw [List.map_cons] at r
  cases r with
  | cons h t =>
   obtain ⟨tk,e⟩:=(show ∃ t,_=Value.int n t from h)
   subst e
   exact .cons n tk (zdF t)
theorem ints_get {ns:List Int} {its:List Value} (r:Vals (ns.map V.int) its) {i:Nat} {v:Value} (h:its[i]?=some v):∃ t,v = .int (ns.getD i 0) t:=by
 obtain ⟨x,hx,rx⟩:=zeC r h
 rw [List.getElem?_map] at hx
 cases e:ns[i]? with
 | none=>rw [e] at hx; cases hx
 | some n =>
  rw [e] at hx
  cases hx
  have en:ns.getD i 0=n:=by rw [List.getD_eq_getElem?_getD,e]; rfl
  rw [en]
  exact rx
theorem zdh (ns:List Int):∀ k,k<=ns.length->preSum (fun i=>ns.getD i 0) k=(ns.take k).sum
 | 0,_=>rfl
 | k + 1,h=>by
  have hk:k < ns.length:=by omega
  rw [preSum,zdh ns k (by omega),zaC (x:=ns[k]) (by simp [hk]),List.sum_append]
  simp [List.getD_eq_getElem?_getD,hk]
theorem call_sum1 (hc:X.calm=true):CallR X (.builtin "sum") (fun xs H Q=>∃ (a:Addr) (ns:List Int),xs = [V.ref a]/\SqL X.K H a (ns.map V.int)/\Q (.int ns.sum) H):=by
 intro pins s σ H xs us Q I r h
 obtain ⟨a,ns,rfl,hq,q⟩:=h
 obtain ⟨u,rfl,ru⟩:=zbq r
 cases ru
 obtain ⟨its,rv,p,hz⟩:=I.list hq
 have hl:ns.length=its.length:=by have:=rv.length; rwa [List.length_map] at this
 refine call_sum_walkG (zcI (A:=X.A.in1) (I.ok.hd hc) p.isList fun It s2 e2 eI W st hf old => ?_)
 refine ⟨It,_,_,its.length,_,_,(fun i=>ns.getD i 0),rfl,W,st,hf,(fun _ _=>ints_get rv),fun h' tk t' k => ?_⟩
 subst e2
 refine ⟨.int _,H,I.kept (t':=tk) (old h' k),⟨t',rfl⟩,?_⟩
 rw [<- hl,zdh ns _ (Nat.le_refl _),List.take_length]
 exact q
noncomputable def many (ns:List Int):Nat:=(firstMet (fun i=>ns.getD i 0) ns.length).length
theorem call_set1 (hc:X.calm=true):CallR X (.type "set") (fun xs H Q=>∃ (a:Addr) (ns:List Int),xs = [V.ref a]/\SqL X.K H a (ns.map V.int)/\ns.length + 1 < scanBound/\∀ p,H p=none->Q (.ref p) (upd H p (.set (fun k=>(firstMet (fun i=>ns.getD i 0) ns.length).any (· == k)) (many ns)))):=by
 intro pins s σ H xs us Q I r h
 obtain ⟨a,ns,rfl,hq,hb,q⟩:=h
 obtain ⟨u,rfl,ru⟩:=zbq r
 cases ru
 obtain ⟨its,rv,p,hz⟩:=I.list hq
 have hl:ns.length=its.length:=by have:=rv.length; rwa [List.length_map] at this
 have hsz:its.toArray.size=ns.length:=by rw [List.size_toArray,hl]
 refine call_set_list (items:=its.toArray) (ns:=ns) (I.ok.hd hc) p.isList (by simpa using zdF rv) (by rw [hsz]; exact hb) fun h' tk hS k => ?_
 rw [hsz] at hS
 have I':Inv X pins σ (upd H s.heap.objs.size (.set (fun k=>(firstMet (fun i=>ns.getD i 0) ns.length).any (· == k)) (many ns))) { s with heap:=h',toks:=tk } :=
  I.laid (fun b o e=>k b o (Heap.lt_size e) e) (Nat.le_refl _) hS
 exact ⟨.ref _,_,I',rfl,q _ (I.hok.fresh (Nat.le_refl _))⟩
theorem call_lenS:CallR X (.builtin "len") (fun xs H Q=>∃ a S n,xs = [V.ref a]/\H a=some (.set S n)/\Q (.int n) H):=by
 intro pins s σ H xs us Q I r h
 obtain ⟨a,S,n,rfl,hq,q⟩:=h
 obtain ⟨u,rfl,ru⟩:=zbq r
 cases ru
 obtain ⟨o,es,ep,t,h1,h2,h3,h4,h5,h6,h7,h8⟩:=(show s.heap.SetOf (intKind X.prog X.w) a S n from I.hok a _ hq)
 have hfit:(es.size:Int) < 2 ^ 63:=by
  have:(es.size:Int) < 4096:=by unfold scanBound at h6; omega
  exact Int.lt_of_lt_of_le this (by decide)
 exact call_len_set h1 h2 h3 h7 hfit ⟨.int n,H,I.tok _,⟨_,by rw [h8]⟩,q⟩
theorem zd0:OpR X (compareOp .LtE) (fun x y H Q=>∃ i j,x = .str i/\y = .str j/\Q (.bl (!decide (j.cps.toList < i.cps.toList))) H):=by
 intro pins s σ H x y v u Q I rx ry h
 obtain ⟨i,j,rfl,rfl,q⟩:=h
 obtain ⟨t,rfl⟩:=rx
 obtain ⟨t',rfl⟩:=ry
 exact PySem.P.le_str (zaw I q rfl)
theorem call_isi {c:Value} {cv:V} (hcv:RelV cv c) (huniq:∀ u,RelV cv u->u=c):CallR X (.builtin "isinstance") (fun xs H Q=>∃ x t b,xs = [x,cv]/\TyOf X.K H x t/\PySem.W.kitOne X.K t c=some b/\Q (.bl b) H):=by
 intro pins s σ H xs us Q I r h
 obtain ⟨x,t,b,rfl,ty,e,q⟩:=h
 obtain ⟨u,u',rfl,ru,ru'⟩:=vals2 r
 have:=huniq u' ru'
 subst this
 exact isinst_ok I ru ty e fun tk=>⟨.bl b,H,I.tok _,rfl,q⟩
theorem zbj (T:String):CallR X (.builtin "isinstance") (fun xs H Q=>∃ x t b,xs = [x,.ty T]/\TyOf X.K H x t/\PySem.W.kitOne X.K t (.type T)=some b/\Q (.bl b) H):=call_isi (c := .type T) (cv := .ty T) rfl fun _ h=>h
end
section
variable {X:Cx}
noncomputable def tCut (t u:TS):TS:=fun D σ H=>∃ M:St->Hp->Prop,t { D with nx:=M } σ H/\∀ σ' H',M σ' H'->u D σ' H'
theorem zdx {st:Stmt} {rest:List Stmt} {t u:TS} (h1:PS X st t) (h2:PSs X rest u):PSs X (st :: rest) (tCut t u):=by
 intro pins s σ H D I h
 obtain ⟨M,h,hM⟩:=h
 refine wpAny_execs_cons (thn (h1 pins s σ H { D with nx:=M } I h) fun f s1 q => ?_)
 cases f with
 | next =>
  obtain ⟨σ',H',I',q⟩:=q
  exact h2 pins s1 σ' H' D I' (hM σ' H' q)
 | ret v=>exact q
 | brk=>exact q
 | cont=>exact q
theorem za3 {scope:Scope} {N:List Str} {cl:List (Str×Addr)} {C:Addr} {s:Shared} {H:Hp} {fp:List Addr} {pn:List (Addr×Obj)} (h:N.Nodup):(cxComp X scope N cl C s H fp pn).N.Nodup:=h
theorem zco {x:Str} {i:Int} {pos:Pos} (hg:Gl X x) (hm:∃ t,X.mg x=some (.int i t)) (hd:(x == ("__debug__" : Str))=false:=by decide):PE X (.Name x pos) (tC (.int i)):=by
 obtain ⟨t,hm⟩:=hm
 exact zfC hg hm ⟨t,rfl⟩ hd
end
theorem ln1 {P:List Value->Prop} {p:Str} (h:∀ a,P [a]):∀ us:List Value,us.length = [p].length->P us
 | [a],_=>h a
theorem ln2 {P:List Value->Prop} {p q:Str} (h:∀ a b,P [a,b]):∀ us:List Value,us.length = [p,q].length->P us
 | [a,b],_=>h a b
theorem ln3 {P:List Value->Prop} {p q r:Str} (h:∀ a b c,P [a,b,c]):∀ us:List Value,us.length = [p,q,r].length->P us
 | [a,b,c],_=>h a b c
structure Callee (P:Program) (w:World) (K:W.Frag) (mg:Str->Option Value) (base:Heap) (x:Str) (k:Nat) (ps:List Str) (sp:Sp):Prop where
 ex:∃ f fd,FnOk P w K mg base CX0 k f fd ps sp/\mg x=some (.ref f)/\PySem.W.keepIn K (.ref f)=true/\Binds K fd ps []/\∃ o,K.lookup f=some o/\o.data = .func fd
structure DefAt (K:W.Frag) (mg:Str->Option Value) (x:Str) (st:Stmt):Prop where
 ex:∃ f fd,Fun K x x st f fd/\mg x=some (.ref f)
theorem def_mk {K:W.Frag} {mg:Str->Option Value} {h:Heap} {x:Str} {st:Stmt} {f:Addr} {oc:Value} {od an:Option Addr} {osl:Array (Option Value)} {kV doc pm cdv ct:Value} (X:K.In h) (G:h.Ns mainGlobals mg)
  (a:PySem.W.nsIn K mainGlobals x=some (some (.ref f)))
  (l:K.lookup f=some ⟨oc,od,.func (PySem.W.fnOf x x (defArgs st) (defBody st) (defScope st) .none kV doc pm an cdv ct),osl⟩)
  (c:PySem.W.codeIn K cdv x=true) (k:PySem.W.keepIn K (.ref f)=true):DefAt K mg x st:=⟨f,_,zfS l c k,PySem.W.mg_of X G a⟩
theorem int_mk {K:W.Frag} {mg:Str->Option Value} {h:Heap} {x:Str} {i:Int} {t:Tok} (X:K.In h) (G:h.Ns mainGlobals mg) (a:PySem.W.nsIn K mainGlobals x=some (some (.int i t))):∃ t,mg x=some (.int i t):=⟨t,PySem.W.mg_of X G a⟩
section
variable {P:Program} {w:World} {K:W.Frag} {mg:Str->Option Value} {base:Heap}
theorem DefAt.callee {x:Str} {st:Stmt} {N ps:List Str} {k:Nat} {sp:Sp} (D:DefAt K mg x st) (S:FnScope N ps (defScope st))
  (hb:∀ (kV doc pm:Value) (an:Option Addr) (cdv ct:Value) (us:List Value),us.length=ps.length->bindArgs (PySem.W.fnOf x x (defArgs st) (defBody st) (defScope st) .none kV doc pm an cdv ct) ⟨us,[]⟩=pure (ps.zip us))
  (len:∀ vs H Q E,sp vs H Q E->vs.length=ps.length)
  (hbody:∀ (f:Addr) (cdv:Value) (A:Around) (outer:List Env) (s:Shared) (H:Hp) (vs:List V) (Q:VK) (E:XK),Room k (A.deeper (envOfC x (defScope st) s.heap.objs.size f cdv))->sp vs H Q E ->
   ∃ t,PSs (cxOf CX0 P w K mg base N x (defScope st) f cdv A outer s H E).nox (defBody st) t/\t { nx:=fun _ H'=>Q .non H',rt:=Q } (start N vs) H):Callee P w K mg base x (k + 1) ps sp:=by
 obtain ⟨f,fd,F,m⟩:=D.ex
 obtain ⟨oc,od,kV,doc,pm,an,cdv,ct,osl,e,lk,hcd⟩:=id F.ex
 exact ⟨f,fd,F.ok S len (fun cdv A outer s H vs Q E hr h=>hbody f cdv A outer s H vs Q E hr h),m,F.kp,F.binds hb,_,lk,rfl⟩
end
section
variable {X:Cx} {x:Str} {k:Nat} {ps:List Str} {sp:Sp} {p pos:Pos} {e:Expr} {es:List Expr} {t:TA}
theorem zaK (C:Callee X.prog X.w X.K X.mg X.base x k ps sp) (hr:Room k X.A) (hg:Gl X x) (ha:PA X (e :: es) t) (hdb:(x == ("__debug__" : Str))=false:=by decide)
  (he:starEach (e :: es) X.env=(false,eval e X.env) :: starEach es X.env:=by rfl) (hpl:(backTo pos (starEach es X.env)).any (·.1)=false:=by rfl):PE X (.Call (.Name x p) (e :: es) [] pos) (tCall sp [] E0 t):=by
 obtain ⟨f,fd,F,hm,hk,hb,_⟩:=C.ex
 exact zfE F hr hg hm hk hb .nil zdY ha hdb he hpl
end
structure Bn (mg:Str->Option Value):Prop where
 n_len:mg "len" = none
 n_all:mg "all" = none
 n_any:mg "any" = none
 n_max:mg "max" = none
 n_min:mg "min" = none
 n_sum:mg "sum" = none
 n_sorted:mg "sorted" = none
 n_isinstance:mg "isinstance" = none
 n_int:mg "int" = none
 n_bool:mg "bool" = none
 n_str:mg "str" = none
 n_list:mg "list" = none
 n_tuple:mg "tuple" = none
 n_dict:mg "dict" = none
 n_set:mg "set" = none
 n_range:mg "range" = none
 n_reversed:mg "reversed" = none
 n_repr:mg "repr" = none
 n_abs:mg "abs" = none
 n_enumerate:mg "enumerate" = none
 n_zip:mg "zip" = none
theorem bn_mk {K:W.Frag} {mg:Str->Option Value} {h:Heap} (X:K.In h) (G:h.Ns mainGlobals mg)
  (a_len:PySem.W.nsIn K mainGlobals "len" = some none)
  (a_all:PySem.W.nsIn K mainGlobals "all" = some none)
  (a_any:PySem.W.nsIn K mainGlobals "any" = some none)
  (a_max:PySem.W.nsIn K mainGlobals "max" = some none)
  (a_min:PySem.W.nsIn K mainGlobals "min" = some none)
  (a_sum:PySem.W.nsIn K mainGlobals "sum" = some none)
  (a_sorted:PySem.W.nsIn K mainGlobals "sorted" = some none)
  (a_isinstance:PySem.W.nsIn K mainGlobals "isinstance" = some none)
  (a_int:PySem.W.nsIn K mainGlobals "int" = some none)
  (a_bool:PySem.W.nsIn K mainGlobals "bool" = some none)
  (a_str:PySem.W.nsIn K mainGlobals "str" = some none)
  (a_list:PySem.W.nsIn K mainGlobals "list" = some none)
  (a_tuple:PySem.W.nsIn K mainGlobals "tuple" = some none)
  (a_dict:PySem.W.nsIn K mainGlobals "dict" = some none)
  (a_set:PySem.W.nsIn K mainGlobals "set" = some none)
  (a_range:PySem.W.nsIn K mainGlobals "range" = some none)
  (a_reversed:PySem.W.nsIn K mainGlobals "reversed" = some none)
  (a_repr:PySem.W.nsIn K mainGlobals "repr" = some none)
  (a_abs:PySem.W.nsIn K mainGlobals "abs" = some none)
  (a_enumerate:PySem.W.nsIn K mainGlobals "enumerate" = some none)
  (a_zip:PySem.W.nsIn K mainGlobals "zip" = some none)
  : Bn mg:=⟨PySem.W.mg_none_of X G a_len,PySem.W.mg_none_of X G a_all,PySem.W.mg_none_of X G a_any,PySem.W.mg_none_of X G a_max,PySem.W.mg_none_of X G a_min,PySem.W.mg_none_of X G a_sum,PySem.W.mg_none_of X G a_sorted,PySem.W.mg_none_of X G a_isinstance,PySem.W.mg_none_of X G a_int,PySem.W.mg_none_of X G a_bool,PySem.W.mg_none_of X G a_str,PySem.W.mg_none_of X G a_list,PySem.W.mg_none_of X G a_tuple,PySem.W.mg_none_of X G a_dict,PySem.W.mg_none_of X G a_set,PySem.W.mg_none_of X G a_range,PySem.W.mg_none_of X G a_reversed,PySem.W.mg_none_of X G a_repr,PySem.W.mg_none_of X G a_abs,PySem.W.mg_none_of X G a_enumerate,PySem.W.mg_none_of X G a_zip⟩
theorem DefAt.entry {P:Program} {w:World} {K:W.Frag} {mg:Str->Option Value} {x p:Str} {st:Stmt} {k:Nat} {sp:Sp} {fa:Addr} (D:DefAt K mg x st) (hfa:mg x=some (.ref fa))
  (hb:∀ (kV doc pm:Value) (an:Option Addr) (cdv ct v:Value),bindArgs (PySem.W.fnOf x x (defArgs st) (defBody st) (defScope st) .none kV doc pm an cdv ct) ⟨[v],[]⟩=pure [(p,v)])
  (C:∀ base:Heap,Callee P w K mg base x k [p] sp) :
  ∃ fd:FuncData,(∀ (s:Shared) (v:Value),BindsTo s fd ⟨[v],[]⟩ [(p,v)])/\∀ base:Heap,K.In base->base.Ns mainGlobals mg->FnOk P w K mg base CX0 k fa fd [p] sp:=by
 obtain ⟨f,fd,F,m⟩:=D.ex
 rw [m] at hfa
 cases hfa
 obtain ⟨oc,od,kV,doc,pm,an,cdv,ct,osl,rfl,lk,hcd⟩:=F.ex
 refine ⟨_,fun s v => .of_eq (hb kV doc pm an cdv ct v),fun base _ _ => ?_⟩
 obtain ⟨f',fd',G,m',_,_,o,lo,ed⟩:=(C base).ex
 rw [m] at m'
 cases m'
 rw [lk] at lo
 cases lo
 cases ed
 exact G
structure Fly (B:Heap) (l:List Env) (x:Addr) (c fl:Value) (h:Heap):Prop where
 stay:B.StaysIn h
 new:B.get? x=none
 frs:h.FunFrames B l
 obj:∃ (oe:Obj) (vs:Array Value) (T:Addr) (oT:Obj) (ts:Array Value),h.get? x=some oe/\(oe.cls=c/\oe.dict=none)/\oe.data = .fields vs/\vs[1]?=some (.ref T)/\vs[2]?=some .none/\B.get? T=none/\T≠x/\h.get? T=some oT/\oT.data = .fields ts/\ts[3]?=some fl
structure Fresh (B:Heap) (l:List Env) (x:Addr) (c:Value) (h:Heap):Prop where
 stay:B.StaysIn h
 new:B.get? x=none
 frs:h.FunFrames B l
 obj:∃ (oe:Obj) (vs:Array Value),h.get? x=some oe/\(oe.cls=c/\oe.dict=none)/\oe.data = .fields vs/\vs[1]?=some .none/\vs[2]?=some .none
section
variable {M:Model} {A:Around} {E:Value->Shared->Prop} {s:Shared} {B:Heap} {l outer:List Env} {env:Env} {x L:Addr} {c:Value}
theorem dict_mapFields (o:Obj) (f:Array Value->Array Value):(o.mapFields f).dict=o.dict:=by
 unfold Obj.mapFields
 split <;> rfl
theorem zaz {h:Heap} {a b:Addr} {o:Obj} {vs:Array Value} {f:Array Value->Array Value} (ha:h.get? a=some o) (hd:o.data = .fields vs) :
  (h.update a (Obj.mapFields f)).get? a=some (o.mapFields f)/\(b≠a->(h.update a (Obj.mapFields f)).get? b=h.get? b) :=
 ⟨Heap.get?_update_self _ ha (Obj.isFreed_of_fields (Obj.data_mapFields hd f)),fun hb=>Heap.get?_update_other _ _ (Ne.symm hb)⟩
theorem zd9 {oe:Obj} {vs:Array Value} {head:Value} {hadNext:Bool} {Q:Unit->Shared->Prop} (hfr:A.frames=some (env :: outer)) (hl:s.heap.FunFrames B (env :: outer)) (hf:env.frame=some L)
  (st:B.StaysIn s.heap) (nx:B.get? x=none) (hx:s.heap.get? x=some oe) (hc:oe.cls=c/\oe.dict=none) (hd:oe.data = .fields vs) (h2:vs[2]?=some .none)
  (k:∀ h',Fly B (env :: outer) x c (rawInt L) h'->s.heap.UpToSlots h'->Q () { s with heap:=h' }) :
  wpAny M A (do let a <- frameOf env; let pl <- entryPlaceOf L hadNext; let b <- EntryCells.newEntry head a .none (rawInt L) .none pl; setField (.ref x) 1 b) Q E s:=by
 have hsz:2 < vs.size:=(Array.getElem?_eq_some_iff.mp h2).1
 have xnf:x ∉ (env :: outer).filterMap (·.frame):=fun hm=>by
  obtain ⟨_,o,ho,hno⟩:=hl.mem hm
  rw [hx] at ho
  cases ho
  exact hno vs hd
 refine wpAny_bind (wpAny_frameOf_fun hfr hl hf fun g1 so=>wpAny_bind (wpAny_entryPlaceOf fun pl hpl => ?_))
 unfold EntryCells.newEntry newFields
 refine wpAny_bind (wpAny_newObj_type ?_ (hpl.sizeOk5 _ _ _ _ _))
 have hx1:g1.get? x=some oe:=(so.2.1 x xnf).trans hx
 have st1:B.StaysIn g1:=fun b o hb=>by
  refine (so.2.1 b fun hm => ?_).trans (st b o hb)
  have:=(hl.mem hm).1
  rw [hb] at this
  cases this
 have big:x < g1.objs.size:=Heap.lt_size hx1
 generalize hnew:({ cls := .type "traceback",dict:=none,data := .fields ([head,.ref L,.none,rawInt L,.none] ++ (if pl.isEmpty then List.replicate 6 Value.none else pl)).toArray }:Obj)=tb
 have hx2:(g1.push tb).get? x=some oe:=Heap.get?_push_of_some tb hx1
 refine wpAny_setField hx2 hd (by omega) (k _ ?_ ?_)
 ·have tx:g1.objs.size≠x:=Nat.ne_of_gt big
  obtain ⟨e1,e2⟩:=zaz (b:=g1.objs.size) (f:=fun a=>a.setIfInBounds 1 (Value.ref g1.objs.size)) hx2 hd
  have hT:(g1.push tb).get? g1.objs.size=some tb:=Heap.get?_push_size g1 (by rw [<- hnew]; rfl)
  refine ⟨fun b o hb => ?_,nx,hl.of_keeps fun b o hb hno => ?_,_,_,g1.objs.size,tb,_,e1,⟨(Obj.cls_mapFields _ _).trans hc.1,(dict_mapFields _ _).trans hc.2⟩,Obj.data_mapFields hd _,(by show (vs.setIfInBounds 1 (Value.ref g1.objs.size))[1]?=_; simp [show 1 < vs.size by omega]),?_,st1.fresh,tx,(e2 tx).trans hT,by rw [<- hnew],?_⟩
  ·obtain ⟨_,e3⟩:=zaz (b:=b) (f:=fun a=>a.setIfInBounds 1 (Value.ref g1.objs.size)) hx2 hd
   refine (e3 fun z => ?_).trans (Heap.get?_push_of_some tb (st1 b o hb))
   rw [z,nx] at hb
   cases hb
  ·have bx:b≠x:=fun z=>by
    rw [z,hx] at hb
    cases hb
    exact hno vs hd
   obtain ⟨sl,hs⟩:=so.2.2 b o hb
   obtain ⟨_,e3⟩:=zaz (b:=b) (f:=fun a=>a.setIfInBounds 1 (Value.ref g1.objs.size)) hx2 hd
   exact ⟨_,(e3 bx).trans (Heap.get?_push_of_some tb hs),rfl⟩
  ·rw [Array.getElem?_setIfInBounds_ne (by decide)]
   exact h2
  ·rcases hpl with rfl | ⟨_,_,_,_,_,_,_,rfl⟩ <;> rfl
 ·intro b o hb hno
  have bx:b≠x:=fun z=>by
   rw [z,hx] at hb
   cases hb
   exact hno vs hd
  obtain ⟨sl,hs⟩:=so.2.2 b o hb
  obtain ⟨_,e3⟩:=zaz (b:=b) (f:=fun a=>a.setIfInBounds 1 (Value.ref g1.objs.size)) hx2 hd
  exact ⟨sl,(e3 bx).trans (Heap.get?_push_of_some tb hs)⟩
theorem ze6 {fl:Value} {Q:Unit->Shared->Prop} (F:Fly B l x c fl s.heap) (k:∀ h',Fly B l x c .none h'->s.heap.UpToSlots h'->Q () { s with heap:=h' }):wpAny M A (setFlight (.ref x) none) Q E s:=by
 obtain ⟨oe,vs,T,oT,ts,hx,hc,hd,h1,h2,nT,tx,hT,dT,h3⟩:=F.obj
 have hsz:3 < ts.size:=(Array.getElem?_eq_some_iff.mp h3).1
 unfold setFlight
 refine wpAny_bind (wpAny_field hx hd h1 ?_)
 rw [if_pos (by simp)]
 refine wpAny_setField hT dT hsz (k _ ?_ ?_)
 ·have e:∀ b,b≠T->(s.heap.update T (Obj.mapFields (·.setIfInBounds 3 ((none:Option Addr).elim Value.none fun f=>rawInt f)))).get? b=s.heap.get? b:=fun b hb=>(zaz hT dT).2 hb
  refine ⟨fun b o hb=>(e b fun z => ?_).trans (F.stay b o hb),F.new,F.frs.of_keeps fun b o hb hno=>⟨o,(e b fun z => ?_).trans hb,rfl⟩,oe,vs,T,_,_,(e x (Ne.symm tx)).trans hx,hc,hd,h1,h2,nT,tx,(zaz (b:=T) hT dT).1,Obj.data_mapFields dT _,by simp [hsz]⟩
  ·rw [z,nT] at hb; cases hb
  ·rw [z,hT] at hb; cases hb; exact hno ts dT
 ·intro b o hb hno
  refine ⟨o.slots,((zaz hT dT).2 fun z => ?_).trans hb⟩
  rw [z,hT] at hb; cases hb; exact hno ts dT
theorem fly_note {Q:Unit->Shared->Prop} (hfr:A.frames=some (env :: outer)) (hf:env.frame=some L) (F:Fly B (env :: outer) x c .none s.heap)
  (k:∀ h',Fly B (env :: outer) x c (rawInt L) h'->s.heap.UpToSlots h'->Q () { s with heap:=h' }):wpAny M A (noteFrame (.ref x) env) Q E s:=by
 obtain ⟨oe,vs,T,oT,ts,hx,hc,hd,h1,h2,nT,tx,hT,dT,h3⟩:=F.obj
 have hsz:3 < ts.size:=(Array.getElem?_eq_some_iff.mp h3).1
 unfold noteFrame
 simp only [hf]
 refine wpAny_bind (wpAny_field hx hd h1 ?_)
 rw [if_pos (by simp)]
 refine wpAny_bind (wpAny_field hT dT h3 ?_)
 rw [if_neg (by simp [rawInt])]
 refine wpAny_bind (wpAny_setField hT dT hsz ?_)
 have e:∀ b,b≠T->(s.heap.update T (Obj.mapFields (·.setIfInBounds 3 Value.none))).get? b=s.heap.get? b:=fun b hb=>(zaz hT dT).2 hb
 have nf:∀ b o,s.heap.get? b=some o->(∀ vs,o.data ≠ .fields vs)->b≠T:=fun b o hb hno z=>by
  rw [z,hT] at hb; cases hb; exact hno ts dT
 refine zd9 hfr (F.frs.of_keeps fun b o hb hno=>⟨o,(e b (nf b o hb hno)).trans hb,rfl⟩) hf (fun b o hb=>(e b fun z => ?_).trans (F.stay b o hb)) F.new ((e x (Ne.symm tx)).trans hx) hc hd h2 fun h' F' u=>k h' F' fun b o hb hno => ?_
 ·rw [z,nT] at hb; cases hb
 ·exact u b o ((e b (nf b o hb hno)).trans hb) hno
theorem fresh_note {Q:Unit->Shared->Prop} (hfr:A.frames=some (env :: outer)) (hf:env.frame=some L) (F:Fresh B (env :: outer) x c s.heap)
  (k:∀ h',Fly B (env :: outer) x c (rawInt L) h'->s.heap.UpToSlots h'->Q () { s with heap:=h' }):wpAny M A (noteFrame (.ref x) env) Q E s:=by
 obtain ⟨oe,vs,hx,hc,hd,h1,h2⟩:=F.obj
 unfold noteFrame
 simp only [hf]
 refine wpAny_bind (wpAny_field hx hd h1 ?_)
 rw [if_neg (by decide)]
 exact zd9 hfr F.frs hf F.stay F.new hx hc hd h2 k
theorem Fly.tail {fl:Value} {h:Heap} (F:Fly B (env :: outer) x c fl h):Fly B outer x c fl h:=⟨F.stay,F.new,F.frs.2.2,F.obj⟩
theorem fly_leave {Q:Unit->Shared->Prop} (hfr:A.frames=some (env :: outer)) (hf:env.frame=some L) (F:Fly B (env :: outer) x c .none s.heap)
  (k:∀ h',Fly B outer x c .none h'->s.heap.UpToSlots h'->Q () { s with heap:=h' }):wpAny M A (leaving env (.ref x)) Q E s:=by
 unfold leaving
 exact wpAny_bind (fly_note hfr hf F fun h1 F1 u1=>ze6 (s:={ s with heap:=h1 }) F1 fun h2 F2 u2=>k h2 F2.tail (u1.trans u2))
theorem fresh_leave {Q:Unit->Shared->Prop} (hfr:A.frames=some (env :: outer)) (hf:env.frame=some L) (F:Fresh B (env :: outer) x c s.heap)
  (k:∀ h',Fly B outer x c .none h'->s.heap.UpToSlots h'->Q () { s with heap:=h' }):wpAny M A (leaving env (.ref x)) Q E s:=by
 unfold leaving
 exact wpAny_bind (fresh_note hfr hf F fun h1 F1 u1=>ze6 (s:={ s with heap:=h1 }) F1 fun h2 F2 u2=>k h2 F2.tail (u1.trans u2))
end
section
variable {P:Program} {w:World}
theorem ObjOk.there {H:Hp} {h:Heap} {a:Addr} {o:HO} (x:ObjOk P w H h a o):∃ ob,h.get? a=some ob:=by
 cases o with
 | lst xs=>obtain ⟨_,_,_,_,e⟩:=x; exact ⟨_,e⟩
 | tup xs=>obtain ⟨_,_,_,o,e,_⟩:=x; exact ⟨o,e⟩
 | dK kvs=>obtain ⟨_,_,_,_,o,_,_,e,_⟩:=x; exact ⟨o,e⟩
 | dT kvs=>obtain ⟨_,_,_,_,o,_,_,e,_⟩:=x; exact ⟨o,e⟩
 | set S n=>obtain ⟨o,_,_,_,e,_⟩:=x; exact ⟨o,e⟩
 | ins C dx fs=>obtain ⟨_,_,_,e,_⟩:=x; exact ⟨_,e⟩
 | own y=>exact x
 | xd fs=>obtain ⟨_,⟨o,_,_,e,_⟩,_⟩:=x; exact ⟨o,e⟩
 | rng lo hi=>obtain ⟨_,_,_,e⟩:=x; exact ⟨_,e⟩
 | frz ob u=>obtain ⟨e,_⟩:=x; exact ⟨_,e⟩
 | tbl ps=>exact ⟨_,(show h.get? a=some _ from x)⟩
 | met f y=>exact ⟨_,(show h.get? a=some _ from x)⟩
 | ext φ => obtain ⟨_,e,_⟩:=x; exact e
noncomputable def CX1 (P:Program) (w:World):CXT:=fun outer H s E e s'=>∃ (x:Addr) (c:Value) (B:Heap) (H':Hp),e = .ref x/\Fly B outer x c .none s'.heap/\s'.os=s.os/\AllBare s'.gens/\Un (frs outer) [] H H' s.heap s'.heap/\HOk P w H' s'.heap/\H' x=none /\
 (∀ b o,H' b=some o->∃ ob,B.get? b=some ob)/\(∀ b o,s.heap.get? b=some o->b ∉ frs outer->∃ ob,B.get? b=some ob)/\E c none H'
theorem zfU {B h h':Heap} {H:Hp} (ok:HOk P w H h) (st:B.StaysIn h) (st':B.StaysIn h') (inB:∀ b o,H b=some o->∃ ob,B.get? b=some ob):HOk P w H h':=fun a o e=>by
 refine (ok a o e).stay (fun b u hb q => ?_) (fun _ q=>q) fun _ _ q=>q
 have ⟨ob,hB⟩:∃ ob,B.get? b=some ob:=by
  rcases hb with z | z
  ·rw [z]; exact inB a o e
  ·exact inB b _ z
 have:=st b ob hB
 rw [q] at this
 cases this
 exact st' b _ hB
theorem zgm {B h0 h h':Heap} {fs:List Addr} {H H':Hp} (u:Un fs [] H H' h0 h) (st:B.StaysIn h) (st':B.StaysIn h') (up:h.UpToSlots h') (inB:∀ b o,h0.get? b=some o->b ∉ fs->∃ ob,B.get? b=some ob)
  (hfs:∀ b∈fs,∀ o,h.get? b=some o->∀ vs,o.data ≠ .fields vs):Un fs [] H H' h0 h' where
 keep:=fun b o e n hb hx=>by
  obtain ⟨ob,hB⟩:=inB b o e hb
  have q:=u.keep b o e n hb hx
  have:=st b ob hB
  rw [q] at this
  cases this
  exact st' b _ hB
 slot:=fun b o e n hb hx=>by
  obtain ⟨sl,q⟩:=u.slot b o e n hb hx
  obtain ⟨sl',q'⟩:=up b _ q (hfs b hb _ q)
  exact ⟨sl',q'⟩
 free:=u.free
 there:=fun b o e hx=>by
  by_cases hb:b∈fs
  ·obtain ⟨o',q⟩:=u.there b o e hx
   obtain ⟨sl,q'⟩:=up b o' q (hfs b hb o' q)
   exact ⟨_,q'⟩
  ·obtain ⟨ob,hB⟩:=inB b o e hb
   exact ⟨ob,st' b ob hB⟩
 tups:=u.tups
 frzs:=u.frzs
 tbls:=u.tbls
theorem ze7 {B h:Heap} {l:List Env} (f:h.FunFrames B l):∀ b∈frs l,∀ o,h.get? b=some o->∀ vs,o.data ≠ .fields vs:=fun b hb o e vs=>by
 obtain ⟨_,o',e',hno⟩:=f.mem hb
 rw [e] at e'
 cases e'
 exact hno vs
theorem zc8 {X:Cx} {pins:List (Addr×Obj)} {σ : St} {H H':Hp} {s:Shared} {h':Heap} (I:Inv X pins σ H s) (hex:X.ex = []) (u:Un (frs X.stack) [] H H' s.heap h'):Un X.fs [] X.H₀ H' X.s₀.heap h':=by
 have nl:∀ b o,X.s₀.heap.get? b=some o->b≠X.env.locals:=fun b o e=>Nat.ne_of_lt (Nat.lt_of_lt_of_le (Heap.lt_size e) I.ok.above)
 have nst:∀ b o,X.s₀.heap.get? b=some o->b ∉ X.fs->b ∉ frs X.stack:=fun b o e hb z=>(List.mem_cons.mp (I.stkSub b z)).elim (nl b o e) hb
 have B:=I.base
 rw [hex] at B
 refine ⟨fun b o e n hb hx=>u.keep b o (B.keep b o e n hb hx) (B.free b o e n hx) (nst b o e hb) hx,fun b o e n hb hx => ?_,fun b o e n hx => ?_,fun b o e hx => ?_,fun b xs e=>u.tups b xs (B.tups b xs e),fun b o v e=>u.frzs b o v (B.frzs b o v e),fun b ps e => ?_⟩
 ·obtain ⟨sl,e1⟩:=B.slot b o e n hb hx
  obtain ⟨sl',e2⟩:=u.any e1 (B.free b o e n hx) hx
  exact ⟨sl',e2⟩
 ·obtain ⟨o',e1⟩:=B.there b o e hx
  exact u.free b o' e1 (B.free b o e n hx) hx
 ·obtain ⟨o',e1⟩:=B.there b o e hx
  exact u.there b o' e1 hx
 ·obtain ⟨m1,e1⟩:=B.tbls b ps e
  obtain ⟨m2,e2⟩:=u.tbls b _ e1
  exact ⟨m1 ++ m2,by rw [e2,Array.append_assoc]⟩
theorem zc6 {K:W.Frag} {mg:Str->Option Value} {base:Heap} {N:List Str} {qual:Str} {scope:Scope} {f:Addr} {cd:Value} {A:Around} {outer:List Env} {s₀ : Shared} {H₀ : Hp} {E:XK} :
  Passes (CX1 P w) (cxOf (CX1 P w) P w K mg base N qual scope f cd A outer s₀ H₀ E) E:=by
 intro pins σ H s e s' I h
 obtain ⟨x,c,B,H',rfl,F,ho,hg,u,ok,nx,inB,old,q⟩:=h
 have hfr:(A.deeper (envOfC qual scope s₀.heap.objs.size f cd)).frames=some (envOfC qual scope s₀.heap.objs.size f cd :: outer):=I.ok.frames
 have ut:Un (frs outer) [] H₀ H' s₀.heap s'.heap:=zc8 I rfl u
 have old':∀ b o,s₀.heap.get? b=some o->b ∉ frs outer->∃ ob,B.get? b=some ob:=fun b o e hb=>by
  obtain ⟨o',e1⟩:=I.base.there b o e (by show b ∉ ([]:List Addr); simp)
  refine old b o' e1 fun z => ?_
  rcases List.mem_cons.mp (I.stkSub b z) with z | z
  ·exact absurd (Nat.lt_of_lt_of_le (Heap.lt_size e) I.ok.above) (by rw [z]; exact Nat.lt_irrefl _)
  ·exact hb z
 show wpAny (model P w) _ (leaving _ (.ref x)) _ _ s'
 refine fly_leave hfr rfl F fun h' F' up=>⟨x,c,B,H',rfl,F',(show s'.os=s₀.os from ho.trans I.os),hg,zgm ut F.stay F'.stay up old' (ze7 F.tail.frs),zfU ok F.stay F'.stay inB,nx,inB,old',q⟩
theorem pass_no {X:Cx} {E:XK} (hE:∀ c d H,¬ E c d H):Passes (CX1 P w) X E:=fun _ _ _ _ _ _ _ h=>by
 obtain ⟨_,_,_,_,_,_,_,_,_,_,_,_,_,q⟩:=h
 exact (hE _ _ _ q).elim
theorem zbk {X:Cx}:Passes (CX1 P w) X E0:=pass_no fun _ _ _ h=>h
theorem raise_out {K:W.Frag} {mg:Str->Option Value} {base:Heap} {N:List Str} {qual:Str} {scope:Scope} {f:Addr} {cd:Value} {A:Around} {outer:List Env} {s₀ : Shared} {H₀ : Hp} {E:XK} {pins:List (Addr×Obj)} {σ : St} {H:Hp} {s s':Shared} {x:Addr} {c:Value} {args:List Value}
  (I:Inv (cxOf (CX1 P w) P w K mg base N qual scope f cd A outer s₀ H₀ E) pins σ H s) (hx:Heap.MadeExcOf s.heap s'.heap x c args) (ho:s'.os=s.os) (hg:AllBare s'.gens) (q:E c none H) :
  (cxOf (CX1 P w) P w K mg base N qual scope f cd A outer s₀ H₀ E).xe (.ref x) s':=by
 have hfr:(A.deeper (envOfC qual scope s₀.heap.objs.size f cd)).frames=some (envOfC qual scope s₀.heap.objs.size f cd :: outer):=I.ok.frames
 have hin:∀ env∈envOfC qual scope s₀.heap.objs.size f cd :: outer,∀ a,env.frame=some a->a∈frs (envOfC qual scope s₀.heap.objs.size f cd :: outer):=fun env he a ha=>List.mem_filterMap.mpr ⟨env,he,ha⟩
 have st:(PySem.W.hideAll s.heap (frs (envOfC qual scope s₀.heap.objs.size f cd :: outer))).StaysIn s'.heap:=fun b o e=>hx.keeps b o (PySem.W.of_hideAll _ e)
 have nx:(PySem.W.hideAll s.heap (frs (envOfC qual scope s₀.heap.objs.size f cd :: outer))).get? x=none:=by
  cases e:(PySem.W.hideAll s.heap (frs (envOfC qual scope s₀.heap.objs.size f cd :: outer))).get? x with
  | none=>rfl
  | some o =>
   have:=PySem.W.of_hideAll _ e
   rw [hx.new] at this
   cases this
 have fr0:s.heap.FunFrames (PySem.W.hideAll s.heap (frs (envOfC qual scope s₀.heap.objs.size f cd :: outer))) (envOfC qual scope s₀.heap.objs.size f cd :: outer):=PySem.W.funFrames_hide I.stack hin
 obtain ⟨t,hobj,_,_⟩:=hx.there
 have F:Fresh (PySem.W.hideAll s.heap (frs (envOfC qual scope s₀.heap.objs.size f cd :: outer))) (envOfC qual scope s₀.heap.objs.size f cd :: outer) x c s'.heap :=
  ⟨st,nx,fr0.of_keeps fun b o hb _=>⟨o,hx.keeps b o hb,rfl⟩,_,_,hobj,⟨rfl,rfl⟩,rfl,rfl,rfl⟩
 have inB:∀ b o,s.heap.get? b=some o->b ∉ frs (envOfC qual scope s₀.heap.objs.size f cd :: outer)->∃ ob,(PySem.W.hideAll s.heap (frs (envOfC qual scope s₀.heap.objs.size f cd :: outer))).get? b=some ob:=fun b o e hb=>⟨o,PySem.W.hideAll_get _ e hb⟩
 have trk:∀ b o,H b=some o->∃ ob,(PySem.W.hideAll s.heap (frs (envOfC qual scope s₀.heap.objs.size f cd :: outer))).get? b=some ob:=fun b o e=>by
  have lt:=I.hok.lt e
  cases e2:s.heap.get? b with
  | none =>
   exfalso
   have ok:=I.hok b o e
   obtain ⟨ob,hob⟩:=ok.there
   rw [e2] at hob
   cases hob
  | some ob =>
   refine inB b ob e2 fun z => ?_
   have:=I.stkFree b z
   rw [e] at this
   cases this
 have old:∀ b o,s₀.heap.get? b=some o->b ∉ frs outer->∃ ob,(PySem.W.hideAll s.heap (frs (envOfC qual scope s₀.heap.objs.size f cd :: outer))).get? b=some ob:=fun b o e hb=>by
  obtain ⟨o',e1⟩:=I.base.there b o e (by show b ∉ ([]:List Addr); simp)
  refine inB b o' e1 fun z => ?_
  rcases List.mem_cons.mp (I.stkSub b z) with z | z
  ·exact absurd (Nat.lt_of_lt_of_le (Heap.lt_size e) I.ok.above) (by rw [z]; exact Nat.lt_irrefl _)
  ·exact hb z
 have u0:Un (frs outer) [] H₀ H s₀.heap s.heap:=zc8 I rfl Un.refl
 have u1:Un (frs outer) [] H₀ H s₀.heap s'.heap:=u0.trans (Un.kept hx.keeps)
 have ok1:HOk P w H s'.heap:=I.hok.kept hx.keeps
 have nxH:H x=none:=by
  cases e:H x with
  | none=>rfl
  | some o =>
   obtain ⟨ob,hob⟩:=(I.hok x o e).there
   rw [hx.new] at hob
   cases hob
 show wpAny (model P w) _ (leaving _ (.ref x)) _ _ s'
 exact fresh_leave hfr rfl F fun h' F' up=>⟨x,c,_,H,rfl,F',(show s'.os=s₀.os from ho.trans I.os),hg,zgm u1 F.stay F'.stay up old (ze7 F.frs.2.2),zfU ok1 F.stay F'.stay trk,nxH,trk,old,q⟩
end
section
variable {prog:Program} {w:World} {A:Around} {E:Value->Shared->Prop} {s:Shared}
end
section
variable {X:Cx} {tg:Expr} {e:Addr} {oe:Obj}
end
section
variable {X:Cx} {k:Nat} {f:Addr} {fd:FuncData} {ps:List Str} {sp:Sp} {x:Str} {p pos:Pos} {ex:Expr} {es:List Expr} {t:TA} {e:Addr} {oe:Obj}
end
section
variable {X:Cx} {pins:List (Addr×Obj)} {σ : St} {H:Hp} {s:Shared}
end
section
variable {prog:Program} {w:World} {A:Around} {E:Value->Shared->Prop} {s:Shared} {K:W.Frag} {x D:Addr} {ox:Obj}
end
section
variable {X:Cx}
end
structure Err (K:W.Frag) (mg:Str->Option Value) (x:Str) (C:Addr):Prop where
 bound:mg x=some (.ref C)
 exc:PySem.W.excIn K C [.type "ValueError",.type "Exception",.type "BaseException",.type "object"] "ValueError.__new__" = true
theorem err_obj {K:W.Frag} {h:Heap} {C:Addr} {bmB:List Value} {newId:String} (X:K.In h) (q:PySem.W.excIn K C bmB newId=true) :
  ∃ bm N nm q bs hdct sn sub ab col dd k0 k1 k2 k3 k5 mN,h.get? C=some (excClassObj nm q C N bs bm hdct sn sub ab col dd k0 k1 k2 k3 k5 newId)/\h.Ns N mN/\mN "__init__" = none/\OwnTail h bmB bm:=by
 unfold PySem.W.excIn at q
 split at q
 ·next dd cd sl ho =>
  split at q
  ·next C' bm k0 k1 k2 k3 n k5 hm hs =>
   simp only [Bool.and_eq_true,beq_iff_eq,Bool.not_eq_true'] at q
   obtain ⟨⟨⟨⟨⟨r1,r2⟩,hdel⟩,ht⟩,hok⟩,hni⟩:=q
   subst r1 r2
   cases cd with
   | mk nm bs mro ns qn hd sn sub ab col del =>
    dsimp only at hm hdel hok hni
    subst hm hdel
    cases sl with
    | mk l =>
     simp only at hs
     subst hs
     exact ⟨bm,ns,nm,qn,bs,hd,sn,sub,ab,col,dd,k0,k1,k2,k3,k5,_,X _ _ ho,.of_isNs (PySem.W.isNs_of_in X hok),PySem.W.nsMap_none_of_in X hok hni,PySem.W.tail_of_in X ht⟩
  ·cases q
 ·cases q
noncomputable def tRaise (E:XK) (C:Addr) (ta:TA):TS:=fun _ σ H=>ta σ H fun vs H1=>vs.length<=sizeLine/\E (.ref C) none H1
section
variable {P:Program} {w:World} {K:W.Frag} {mg:Str->Option Value} {base:Heap} {N:List Str} {qual:Str} {scope:Scope} {f:Addr} {cd:Value} {A:Around} {outer:List Env} {s₀ : Shared} {H₀ : Hp} {E:XK}
theorem zbs {x:Str} {C:Addr} {np cpos pos:Pos} {e:Expr} {es:List Expr} {t:TA} (O:Err K mg x C) (hg:Gl (cxOf (CX1 P w) P w K mg base N qual scope f cd A outer s₀ H₀ E) x)
  (ha:PA (cxOf (CX1 P w) P w K mg base N qual scope f cd A outer s₀ H₀ E) (e :: es) t) (hd:(x == ("__debug__" : Str))=false:=by decide)
  (he:starEach (e :: es) (envOfC qual scope s₀.heap.objs.size f cd)=(false,eval e (envOfC qual scope s₀.heap.objs.size f cd)) :: starEach es (envOfC qual scope s₀.heap.objs.size f cd):=by rfl)
  (hpl:(backTo cpos (starEach es (envOfC qual scope s₀.heap.objs.size f cd))).any (·.1)=false:=by rfl) :
  PS (cxOf (CX1 P w) P w K mg base N qual scope f cd A outer s₀ H₀ E) (.Raise (some (.Call (.Name x np) (e :: es) [] cpos)) none pos) (tRaise E C t):=by
 intro pins s σ H D I h
 obtain ⟨bm,Nn,nm,q,bs,hdct,sn,sub,ab,col,dd,k0,k1,k2,k3,k5,mN,hC,hN,hni,T⟩:=err_obj I.ok.mod.kin O.exc
 refine wpAny_Raise_call_subT (C:=C) (nm:=nm) (q:=q) (N:=Nn) (bs:=bs) (bm:=bm) (hdct:=hdct) (sn:=sn) (sub:=sub) (ab:=ab) (col:=col) (dd:=dd) (k0:=k0) (k1:=k1) (k2:=k2) (k3:=k3) (k5:=k5) (env:=envOfC qual scope s₀.heap.objs.size f cd)
  F.excBase_ValueError (mN:=mN) (T.hasType F.excBase_ValueError.hasBase) (I.ok.hd rfl) ?_ hni (zdE I hg O.bound ⟨rfl,?_⟩ hd)
 ·rw [he]
  show (false || (backTo cpos (starEach es (envOfC qual scope s₀.heap.objs.size f cd))).any (·.1))=false
  rw [hpl]; rfl
 ·have g:=ha cpos pins s σ H _ I h
  change wpAny _ _ (spliced (backTo cpos (starEach (e :: es) (envOfC qual scope s₀.heap.objs.size f cd)))) _ _ s at g
  rw [he] at g ⊢
  refine Calls.evalArgs_plain (thn g fun us s2 ⟨vs,H1,I1,r,hl,q⟩ => ?_)
  exact ⟨rfl,by rw [<- r.length]; exact hl,I1.bk _ _ hC,hN.keeps I1.bk,T.keeps I1.bk,fun h' x hx=>raise_out I1 hx rfl I1.bare q⟩
end
structure Callee1 (P:Program) (w:World) (K:W.Frag) (mg:Str->Option Value) (base:Heap) (x:Str) (k:Nat) (ps:List Str) (sp:Sp):Prop where
 ex:∃ f fd,FnOk P w K mg base (CX1 P w) k f fd ps sp/\mg x=some (.ref f)/\PySem.W.keepIn K (.ref f)=true/\Binds K fd ps []
structure MethAt (K:W.Frag) (C:Addr) (cn m:Str) (st:Stmt):Prop where
 ex:∃ f fd,Fun K m (cn ++ Str.ofString "." ++ m) st f fd/\Meth K C m f
structure Method (P:Program) (w:World) (K:W.Frag) (mg:Str->Option Value) (base:Heap) (C:Addr) (m:Str) (CX:CXT) (k:Nat) (ps:List Str) (sp:Sp):Prop where
 ex:∃ f fd,FnOk P w K mg base CX k f fd ps sp/\Meth K C m f/\Binds K fd ps []
section
variable {P:Program} {w:World} {K:W.Frag} {mg:Str->Option Value} {base:Heap}
theorem Fun.ok1 {x qual:Str} {st:Stmt} {f:Addr} {fd:FuncData} {N ps:List Str} {k:Nat} {sp:Sp} (F:Fun K x qual st f fd) (S:FnScope N ps (defScope st)) (len:∀ vs H Q E,sp vs H Q E->vs.length=ps.length)
  (hbody:∀ (cdv:Value) (A:Around) (outer:List Env) (s:Shared) (H:Hp) (vs:List V) (Q:VK) (E:XK),Room k (A.deeper (envOfC qual (defScope st) s.heap.objs.size f cdv))->sp vs H Q E ->
   ∃ t,PSs (cxOf (CX1 P w) P w K mg base N qual (defScope st) f cdv A outer s H E) (defBody st) t/\t { nx:=fun _ H'=>Q .non H',rt:=Q } (start N vs) H):FnOk P w K mg base (CX1 P w) (k + 1) f fd ps sp:=by
 obtain ⟨oc,od,kV,doc,pm,an,cdv,ct,osl,rfl,lk,hcd⟩:=F.ex
 exact zgF lk hcd S len fun A outer s H vs Q E hr hsp=>hbody cdv A outer s H vs Q E hr hsp
theorem DefAt.callee1 {x:Str} {st:Stmt} {N ps:List Str} {k:Nat} {sp:Sp} (D:DefAt K mg x st) (S:FnScope N ps (defScope st))
  (hb:∀ (kV doc pm:Value) (an:Option Addr) (cdv ct:Value) (us:List Value),us.length=ps.length->bindArgs (PySem.W.fnOf x x (defArgs st) (defBody st) (defScope st) .none kV doc pm an cdv ct) ⟨us,[]⟩=pure (ps.zip us))
  (len:∀ vs H Q E,sp vs H Q E->vs.length=ps.length)
  (hbody:∀ (f:Addr) (cdv:Value) (A:Around) (outer:List Env) (s:Shared) (H:Hp) (vs:List V) (Q:VK) (E:XK),Room k (A.deeper (envOfC x (defScope st) s.heap.objs.size f cdv))->sp vs H Q E ->
   ∃ t,PSs (cxOf (CX1 P w) P w K mg base N x (defScope st) f cdv A outer s H E) (defBody st) t/\t { nx:=fun _ H'=>Q .non H',rt:=Q } (start N vs) H):Callee1 P w K mg base x (k + 1) ps sp:=by
 obtain ⟨f,fd,F,m⟩:=D.ex
 exact ⟨f,fd,F.ok1 S len (fun cdv A outer s H vs Q E hr h=>hbody f cdv A outer s H vs Q E hr h),m,F.kp,F.binds hb⟩
theorem MethAt.meth1 {cn m:Str} {C:Addr} {st:Stmt} {N ps:List Str} {k:Nat} {sp:Sp} (D:MethAt K C cn m st) (S:FnScope N ps (defScope st))
  (hb:∀ (kV doc pm:Value) (an:Option Addr) (cdv ct:Value) (us:List Value),us.length=ps.length->bindArgs (PySem.W.fnOf m (cn ++ Str.ofString "." ++ m) (defArgs st) (defBody st) (defScope st) .none kV doc pm an cdv ct) ⟨us,[]⟩=pure (ps.zip us))
  (len:∀ vs H Q E,sp vs H Q E->vs.length=ps.length)
  (hbody:∀ (f:Addr) (cdv:Value) (A:Around) (outer:List Env) (s:Shared) (H:Hp) (vs:List V) (Q:VK) (E:XK),Room k (A.deeper (envOfC (cn ++ Str.ofString "." ++ m) (defScope st) s.heap.objs.size f cdv))->sp vs H Q E ->
   ∃ t,PSs (cxOf (CX1 P w) P w K mg base N (cn ++ Str.ofString "." ++ m) (defScope st) f cdv A outer s H E) (defBody st) t/\t { nx:=fun _ H'=>Q .non H',rt:=Q } (start N vs) H):Method P w K mg base C m (CX1 P w) (k + 1) ps sp:=by
 obtain ⟨f,fd,F,m⟩:=D.ex
 exact ⟨f,fd,F.ok1 S len (fun cdv A outer s H vs Q E hr h=>hbody f cdv A outer s H vs Q E hr h),m,F.binds hb⟩
theorem MethAt.meth0 {cn m:Str} {C:Addr} {st:Stmt} {N ps:List Str} {k:Nat} {sp:Sp} (D:MethAt K C cn m st) (S:FnScope N ps (defScope st))
  (hb:∀ (kV doc pm:Value) (an:Option Addr) (cdv ct:Value) (us:List Value),us.length=ps.length->bindArgs (PySem.W.fnOf m (cn ++ Str.ofString "." ++ m) (defArgs st) (defBody st) (defScope st) .none kV doc pm an cdv ct) ⟨us,[]⟩=pure (ps.zip us))
  (len:∀ vs H Q E,sp vs H Q E->vs.length=ps.length)
  (hbody:∀ (f:Addr) (cdv:Value) (A:Around) (outer:List Env) (s:Shared) (H:Hp) (vs:List V) (Q:VK) (E:XK),Room k (A.deeper (envOfC (cn ++ Str.ofString "." ++ m) (defScope st) s.heap.objs.size f cdv))->sp vs H Q E ->
   ∃ t,PSs (cxOf CX0 P w K mg base N (cn ++ Str.ofString "." ++ m) (defScope st) f cdv A outer s H E).nox (defBody st) t/\t { nx:=fun _ H'=>Q .non H',rt:=Q } (start N vs) H):Method P w K mg base C m CX0 (k + 1) ps sp:=by
 obtain ⟨f,fd,F,m⟩:=D.ex
 exact ⟨f,fd,F.ok S len (fun cdv A outer s H vs Q E hr h=>hbody f cdv A outer s H vs Q E hr h),m,F.binds hb⟩
end
section
variable {X:Cx} {x m:Str} {k:Nat} {ps:List Str} {sp:Sp} {p pos apos:Pos} {o e:Expr} {es:List Expr} {ta:TE} {t:TA} {E:XK} {C:Addr} {CX:CXT}
theorem zfD (F:Callee1 X.prog X.w X.K X.mg X.base x k ps sp) (hr:Room k X.A) (hx:Passes (CX1 X.prog X.w) X E) (hg:Gl X x) (ha:PA X (e :: es) t) (hdb:(x == ("__debug__" : Str))=false:=by decide)
  (he:starEach (e :: es) X.env=(false,eval e X.env) :: starEach es X.env:=by rfl) (hpl:(backTo pos (starEach es X.env)).any (·.1)=false:=by rfl):PE X (.Call (.Name x p) (e :: es) [] pos) (tCall sp [] E t):=by
 obtain ⟨f,fd,F,hm,hk,hb⟩:=F.ex
 exact zfE F hr hg hm hk hb .nil hx ha hdb he hpl
theorem zfB {pl:Sem Bool} (he:PE X o ta) (c:Cls X.K C) (F:Method X.prog X.w X.K X.mg X.base C m CX k ps sp) (hr:Room k X.A) (hx:Passes CX X E) (ha:PA X (e :: es) t)
  (hst:starEach (e :: es) X.env=(false,eval e X.env) :: starEach es X.env:=by rfl) (hpl:(backTo pos (starEach es X.env)).any (·.1)=false:=by rfl)
  (ht:eval (.Call (.Attribute o m apos) (e :: es) [] pos) X.env=(do
   let ov <- eval o X.env
   standAt apos.atName
   let (f,first) <- holding [ov] (getMethod ov m pl)
   callWith pos f first (backTo pos (starEach (e :: es) X.env)) (backToKw pos (keywordEach [] X.env))):=by rfl) :
  PE X (.Call (.Attribute o m apos) (e :: es) [] pos) (tMeth C m sp [] E ta t):=by
 obtain ⟨f,fd,F,hm,hb⟩:=F.ex
 exact pe_meth he c hm F hr hb .nil hx ha hst hpl ht
theorem pe_mt0 {pl:Sem Bool} (he:PE X o ta) (c:Cls X.K C) (F:Method X.prog X.w X.K X.mg X.base C m CX k ps sp) (hr:Room k X.A) (hx:Passes CX X E)
  (ht:eval (.Call (.Attribute o m apos) [] [] pos) X.env=(do
   let ov <- eval o X.env
   standAt apos.atName
   let (f,first) <- holding [ov] (getMethod ov m pl)
   callWith pos f first (backTo pos (starEach [] X.env)) (backToKw pos (keywordEach [] X.env))):=by rfl) :
  PE X (.Call (.Attribute o m apos) [] [] pos) (tMeth C m sp [] E ta tNil):=by
 obtain ⟨f,fd,F,hm,hb⟩:=F.ex
 exact pe_meth0 he c hm F hr hb .nil hx ht
end
section
variable {X:Cx}
noncomputable def gLst (K:W.Frag) (n:Nat) (t:TGs):TG:=fun v σ H Q=>∃ a xs,v = .ref a/\SqL K H a xs/\xs.length=n/\t xs σ H Q
theorem zfz {es:List Expr} {k:Nat} {t:TGs} {n:Nat} {pos:Pos} (hc:X.calm=true) (h:PGs X es t)
  (hn:(assignEach es X.env).length=n:=by rfl) (hst:(assignEach es X.env).findIdx? (·.1)=none:=by rfl):PG X (.Tuple es k pos) (gLst X.K n t):=by
 intro pins s σ H v u Q I r hw
 obtain ⟨a,xs,e1,hq,hl,hw⟩:=hw
 subst e1
 cases r
 obtain ⟨its,rv,p,hz⟩:=I.list hq
 rw [PyProof.Rows.assign_Tuple]
 refine wpAny_bind (wpAny_standAt ?_)
 unfold unpack
 have hsz:(assignEach es X.env).length=its.toArray.size:=by simp [hn,<- hl,rv.length]
 rw [hsz,hst]
 refine wpAny_bind (wpAny_holding (PySem.W.kun_itemsOf (I.ok.hd hc) p.isList fun h' hx => ?_))
 have I1:Inv X pins σ H { s with heap:=h' }:=I.kept (t':=s.toks) fun b o e=>hx b o (Nat.ne_of_lt (Heap.lt_size e)) e
 exact h pins _ σ H xs _ Q I1 (by simpa using rv) hw
end
mutual
inductive VD (K:W.Frag) (H:Hp):V->PyData->Prop
 | non:VD K H .non .none
 | bl (b:Bool):VD K H (.bl b) (.bool b)
 | int (i:Int):VD K H (.int i) (.int i)
 | str (x:Str):VD K H (.str x) (.str x)
 | lst {a:Addr} {xs:List V} {ds:List PyData}:SqL K H a xs->VDs K H xs ds->VD K H (.ref a) (.list ds)
 | tup {a:Addr} {xs:List V} {ds:List PyData}:SqT K H a xs->VDs K H xs ds->VD K H (.ref a) (.tuple ds)
inductive VDs (K:W.Frag) (H:Hp):List V->List PyData->Prop
 | nil:VDs K H [] []
 | cons {x:V} {d:PyData} {xs:List V} {ds:List PyData}:VD K H x d->VDs K H xs ds->VDs K H (x :: xs) (d :: ds)
end
theorem VDs.map {K:W.Frag} {H:Hp} {α : Type} {f : α -> V} {g : α -> PyData}:∀ {l:List α},(∀ x∈l,VD K H (f x) (g x))->VDs K H (l.map f) (l.map g)
 | [],_ => .nil
 | x :: l,h => .cons (h x List.mem_cons_self) (VDs.map fun y hy=>h y (List.mem_cons_of_mem _ hy))
section
variable {X:Cx} {pins:List (Addr×Obj)} {σ : St} {H:Hp} {s:Shared}
mutual
theorem VD.reads (I:Inv X pins σ H s):∀ {v:V} {d:PyData} {u:Value},VD X.K H v d->RelV v u->∃ as,Reads s.heap u d as
 | _,_,_,.non,r=>by cases r; exact ⟨_,.none⟩
 | _,_,_,.bl b,r=>by cases r; exact ⟨_,.bool b⟩
 | _,_,_,.int i,r=>by obtain ⟨t,rfl⟩:=r; exact ⟨_,.int i t⟩
 | _,_,_,.str x,r=>by obtain ⟨t,rfl⟩:=r; exact ⟨_,.str x t⟩
 | _,_,_,.lst hq hs,r=>by
  cases r
  obtain ⟨its,rv,⟨o,n,e,c,_,d⟩,_⟩:=I.list hq
  obtain ⟨as,ra⟩:=VDs.reads I hs rv
  exact ⟨_,.list e c d (by simpa using ra)⟩
 | _,_,_,.tup hq hs,r=>by
  cases r
  obtain ⟨its,rv,⟨o,e,c,n,d⟩,_⟩:=I.tuple hq
  obtain ⟨as,ra⟩:=VDs.reads I hs rv
  exact ⟨_,.tuple e c d (by simpa using ra)⟩
theorem VDs.reads (I:Inv X pins σ H s):∀ {vs:List V} {ds:List PyData} {us:List Value},VDs X.K H vs ds->Vals vs us->∃ as,ReadsAll s.heap us ds as
 | _,_,_,.nil,r=>by cases r; exact ⟨_,.nil⟩
 | _,_,_,.cons h hs,r=>by
  cases r with
  | cons r rr =>
   obtain ⟨a1,r1⟩:=VD.reads I h r
   obtain ⟨a2,r2⟩:=VDs.reads I hs rr
   exact ⟨_,.cons r1 r2⟩
end
end
section
variable {X:Cx}
noncomputable def rEqD (K:W.Frag) (neg:Bool):R2:=fun x y H Q=>∃ d e,VD K H x d/\VD K H y e/\SeqAt.shaped d=true/\SeqAt.shaped e=true/\Q (.bl (if neg then !PyData.eqv d e else PyData.eqv d e)) H
theorem op_eqD (hu:X.A.units + 64 < cLine):OpR X (compareOp .Eq) (rEqD X.K false):=by
 intro pins s σ H x y v u Q I rx ry h
 obtain ⟨d,e,hd,he,s1,s2,q⟩:=h
 obtain ⟨a1,r1⟩:=hd.reads I rx
 obtain ⟨a2,r2⟩:=he.reads I ry
 exact eq_dataH r1 r2 s1 s2 hu ⟨.bl _,H,I,rfl,q⟩
theorem zeW (hu:X.A.units + 64 < cLine):OpR X (compareOp .NotEq) (rEqD X.K true):=by
 intro pins s σ H x y v u Q I rx ry h
 obtain ⟨d,e,hd,he,s1,s2,q⟩:=h
 obtain ⟨a1,r1⟩:=hd.reads I rx
 obtain ⟨a2,r2⟩:=he.reads I ry
 exact ne_dataH r1 r2 s1 s2 hu ⟨.bl _,H,I,rfl,q⟩
theorem zdO:∀ {xs:List Str} {us:List Value},StrsAre us xs->Vals (xs.map V.str) us
 | _,_,.nil => .nil
 | _,_,.cons _ t r => .cons ⟨t,rfl⟩ (zdO r)
theorem sorted_fin {pins:List (Addr×Obj)} {σ : St} {H:Hp} {s:Shared} {Q:VK} {vs:List Value} {out:Array Value} {ys:List V} (I:Inv X pins σ H s) (hl:ys.length<=sizeLine) (r:Vals ys out.toList)
  (q:Q (.ref (s.heap.objs.size + 1)) (upd H (s.heap.objs.size + 1) (.lst ys))):EP X pins σ Q (.ref (s.heap.objs.size + 1)) { s with heap:=sortedAll s.heap vs out }:=by
 obtain ⟨e,he⟩:=sortedAll_at s.heap vs out
 exact ⟨.ref (s.heap.objs.size + 1),_,I.laid (t':=s.toks) (fun b o=>sortedAll_old) (Nat.le_succ _) (show ObjOk X.prog X.w _ _ _ (.lst ys) from ⟨hl,out.toList,e,r,by simpa using he⟩),rfl,q⟩
theorem zcz:CallR X (.builtin "sorted") (fun xs H Q=>∃ (a:Addr) (ns:List Int),xs = [V.ref a]/\SqL X.K H a (ns.map V.int)/\ns.length < 64/\∀ p (ns':List Int),H p=none->ns'.Perm ns->ns'.Pairwise (· <= ·)->Q (.ref p) (upd H p (.lst (ns'.map V.int)))):=by
 intro pins s σ H xs us Q I r h
 obtain ⟨a,ns,rfl,hq,hb,q⟩:=h
 obtain ⟨u,rfl,ru⟩:=zbq r
 cases ru
 obtain ⟨its,rv,p,hz⟩:=I.list hq
 have hl:ns.length=its.length:=by have:=rv.length; rwa [List.length_map] at this
 refine sorted_ints p.isList (zdF rv) (by omega) fun out ns' a1 a2 a3 => ?_
 exact sorted_fin I (by rw [List.length_map,a2.length_eq]; exact Nat.le_trans (Nat.le_of_lt hb) (by decide)) (zb0 a1) (q _ ns' (I.hok.fresh (Nat.le_succ _)) a2 a3)
end
theorem zc9:∀ {l:List Value} {ss:List Str},l.length=ss.length->(∀ (j:Nat) (v:Value) (x:Str),l[j]?=some v->ss[j]?=some x->∃ t,v = .str x t)->StrsAre l ss
 | [],[],_,_ => .nil
 | v :: l,x :: ss,hl,h=>by
  obtain ⟨t,rfl⟩:=h 0 v x rfl rfl
  exact .cons _ _ (zc9 (by simpa using hl) fun j u y e1 e2=>h (j + 1) u y (by simpa using e1) (by simpa using e2))
theorem KV.get {κ : Type}:∀ {a:List (κ × V)} {b:List (κ × Value)} {i:Nat} {k : κ} {x:Value},KV a b->b[i]?=some (k,x)->∃ v,a[i]?=some (k,v)/\RelV v x
 | [],_,_,_,_,h,e=>by cases h; simp at e
 | (k',v') :: a,_,i,k,x,h,e=>by
  cases h with
  | cons r rr =>
   cases i with
   | zero =>
    simp at e
    obtain ⟨r1,r2⟩:=r
    simp only at r1
    rw [e] at r1 r2
    exact ⟨v',by rw [r1]; rfl,r2⟩
   | succ i=>exact KV.get (i:=i) rr (by simpa using e)
section
variable {X:Cx}
theorem call_sortedD (hc:X.calm=true):CallR X (.builtin "sorted") (fun xs H Q=>∃ (a:Addr) (kvs:List (Key×V)) (ss:List Str),xs = [V.ref a]/\Rd H a (.dK kvs)/\kvs.map (·.1)=ss.map Sum.inr/\ss.length < 64 /\
  ∀ p (ss':List Str),H p=none->ss'.Perm ss->sortedS ss'=true->Q (.ref p) (upd H p (.lst (ss'.map V.str)))):=by
 intro pins s σ H xs us Q I r h
 obtain ⟨a,kvs,ss,rfl,hq,hk,h64,q⟩:=h
 obtain ⟨u,rfl,ru⟩:=zbq r
 cases ru
 obtain ⟨hz,lo,vs,kv,hD⟩:=(show ObjOk X.prog X.w H s.heap a (.dK kvs) from hq.ok I.hok)
 obtain ⟨ep,hat⟩:=hD.dictAt
 have hlen:vs.length=ss.length:=by
  have e1:=kv.length
  have e2:=congrArg List.length hk
  rw [List.length_map,List.length_map] at e2
  omega
 have big64:(64:Nat)<=sizeLine:=by decide
 refine Calls.call_function_entry kind_sorted plain_sorted entry_sorted (args_sorted1 _) ?_
 unfold Builtin.«sorted»
 refine wpAny_bind (m:=checkCount "sorted" 1 1 _) (wpAny_pure ?_)
 refine wpAny_bind (PySem.W.kdu_collect (A:=X.A.in1) (PySem.W.kdl_dict (knd:=mixKind X.prog X.w) (kvs:=vs) (ep:=ep) lo) (I.ok.hd hc) hat (by omega) fun h' tk acc hkeep hacc => ?_)
 have hl:acc.toList.length=vs.length:=by rw [Array.length_toList]; exact hacc.1
 have hS:StrsAre acc.toList ss:=by
  refine zc9 (by omega) fun j v x e1 e2 => ?_
  obtain ⟨k,y,e3,hk2⟩:=hacc.2 j v (by rw [<- Array.getElem?_toList]; exact e1)
  obtain ⟨v',e4,_⟩:=kv.get e3
  have e5:(kvs.map (·.1))[j]?=some k:=by rw [List.getElem?_map,e4]; rfl
  rw [hk,List.getElem?_map,e2] at e5
  have e6:Sum.inr x=k:=Option.some.inj e5
  subst e6
  rcases zav (show keyIs (Sum.inr x) v=true from hk2) with ⟨i,t,e,_⟩ | ⟨y,t,e,e7⟩
  ·cases e
  ·cases e; exact ⟨t,e7⟩
 refine wpAny_bind (wpAny_newList ?_ (by rw [hl]; omega))
 have hoL:(h'.push (seqObj "list" acc.toList.toArray 0)).get? h'.objs.size=some (seqObj "list" acc.toList.toArray 0):=Heap.get?_push_size _ rfl
 refine wpAny_bind (wpAny_holding (wpAny_call_entry slot_list_sort ⟨_,hoL,rfl⟩ entry_list_sort (list_sort_treeK strKind_oneLt hoL hS.keysOf (fun v₁ v₂ rest e=>keyKind_strs (by rw [<- e]; exact hS)) (by omega) fun st' hp hs=>⟨_,rfl,?_⟩) (args_list_sort _)))
 obtain ⟨ss',a1,a2,a3⟩:=sorted_out_str hS hp hs
 refine wpAny_pure ⟨_,rfl,?_⟩
 obtain ⟨e,he⟩:=sortedHeap_at (out:=(arrOf st').map (·.2)) hoL
 have I1:Inv X pins σ H { s with heap:=h',toks:=tk }:=I.kept hkeep
 have I2:=Inv.laid (o := .lst (ss'.map V.str)) (a:=h'.objs.size) (h':=sortedHeap (h'.push (seqObj "list" acc.toList.toArray 0)) h'.objs.size acc.toList ((arrOf st').map (·.2))) (t':=tk) I1 (fun b o hb=>by
  have lt:=Heap.lt_size hb
  rw [sortedHeap_old (Nat.ne_of_lt lt) (by rw [Heap.size_push]; exact Nat.lt_succ_of_lt lt)]
  exact Heap.get?_push_of_some _ hb) (Nat.le_refl _) (show ObjOk X.prog X.w _ _ _ (.lst (ss'.map V.str)) from ⟨by rw [List.length_map,a2.length_eq]; omega,_,e,zdO a1,by rw [Array.toArray_toList]; exact he⟩)
 exact ⟨.ref h'.objs.size,_,I2,rfl,q _ ss' (I1.hok.fresh (Nat.le_refl _)) a2 a3⟩
end
section
variable {X:Cx} {pins:List (Addr×Obj)} {σ : St} {H:Hp} {s:Shared} {a:Addr} {kvs:List (Key×V)}
end
theorem kV_rel {k:Key} {v:Value} (h:keyIs k v=true):RelV (kV k) v:=by
 rcases zav h with ⟨i,t,rfl,rfl⟩ | ⟨x,t,rfl,rfl⟩
 ·exact ⟨t,rfl⟩
 ·exact ⟨t,rfl⟩
section
variable {X:Cx} {tg:Expr}
end
section
variable {X:Cx} {f:Str} {k k':Nat} {ps:List Str} {spf:Addr->Value->Sp} {p pos:Pos} {e:Expr} {es:List Expr} {t:TA} {x:Addr} {c:Value} {ox:Obj} {pn:List (Addr×Obj)} {vs:Array Value}
end
structure Maker (P:Program) (w:World) (K:W.Frag) (mg:Str->Option Value) (base:Heap) (x:Str) (C:Addr) (CX:CXT) (k:Nat) (ps:List Str) (sp:Sp):Prop where
 ex:∃ f fd,Mk K C f/\FnOk P w K mg base CX k f fd ps sp/\mg x=some (.ref C)/\Binds K fd ps []
theorem pe_mk0 {X:Cx} {x:Str} {C:Addr} {CX:CXT} {k:Nat} {ps:List Str} {sp:Sp} {E:XK} {p pos:Pos} (M:Maker X.prog X.w X.K X.mg X.base x C CX k ps sp) (hr:Room (k + 1) X.A) (hx:Passes CX X E) (hg:Gl X x) (hdb:(x == ("__debug__" : Str))=false:=by decide) :
  PE X (.Call (.Name x p) [] [] pos) (tMake C sp [] E tNil):=by
 obtain ⟨f,fd,M,F,m,b⟩:=M.ex
 exact pe_make0 M F hr hg m b .nil hx hdb
section
variable {Y:Cx}
theorem op_notIn_seq' (K:W.Frag) (h:Y.K=K):OpR Y (compareOp .NotIn) (rIn K true):=by subst h; exact zbJ
theorem ze4 (K:W.Frag) (h:Y.K=K):IxR Y (rIxL K):=by subst h; exact zaD
theorem zer (K:W.Frag) (h:Y.K=K):IxR Y (rIxT K):=by subst h; exact zaB
end
noncomputable def isStar:Expr->Bool
 | .Starred _ _=>true
 | _=>false
theorem star_cons {e:Expr} (es:List Expr) (env:Env) (h:isStar e=false):starEach (e :: es) env=(false,eval e env) :: starEach es env:=by
 cases e <;> first | rfl | cases h
structure QA (X:Cx) (es:List Expr) (t:TA):Prop where h:PA X es t
structure QE (X:Cx) (e:Expr) (t:TE):Prop where h:PE X e t
section
variable {X:Cx} {e:Expr} {es:List Expr} {te:TE} {t:TA} {pos:Pos}
theorem qe (h:PE X e te):QE X e te:=⟨h⟩
theorem zaI:QA X [] tNil:=⟨zae⟩
theorem zag (ha:QE X e te) (hr:QA X es t) (h:isStar e=false:=by rfl):QA X (e :: es) (tCons te t):=⟨zaa ha.h hr.h (star_cons es X.env h)⟩
theorem za0 {k} (h:QA X es t):QE X (.Tuple es k pos) (tTup t):=⟨zbA h.h⟩
theorem zcO (h:QA X es t):QE X (.List es pos) (tLst t):=⟨zaP h.h⟩
end
structure QS (X:Cx) (st:Stmt) (t:TS):Prop where h:PS X st t
structure QSs (X:Cx) (st:List Stmt) (t:TS):Prop where h:PSs X st t
section
variable {X:Cx} {st:Stmt} {rest:List Stmt} {t u:TS} {a b e:Expr} {ta tb te:TE} {pos:Pos}
theorem qs (h:PS X st t):QS X st t:=⟨h⟩
theorem zfv (h:QS X st t):QSs X [st] t:=⟨zaf h.h⟩
theorem qe_ix {r:R2} (hr:IxR X r) (ha:QE X a ta) (hb:QE X b tb) (hs:PlainIx b):QE X (.Subscript a b pos) (tOp r ta tb):=⟨zau hr ha.h hb.h hs⟩
theorem zgu {op:Operator} {r:R2} (ho:OpR X (binaryOp op) r) (ha:QE X a ta) (hb:QE X b tb):QE X (.BinOp a op b pos) (tOp r ta tb):=⟨zaA ho ha.h hb.h⟩
theorem za4 (h:QS X st t) (hr:QSs X rest u):QSs X (st :: rest) (tSeq t u):=⟨zad h.h hr.h⟩
theorem qss_cut (h:QS X st t) (hr:QSs X rest u):QSs X (st :: rest) (tCut t u):=⟨zdx h.h hr.h⟩
theorem zgb (h:QE X e te):QS X (.Return (some e) pos) (tRet te):=⟨zal h.h⟩
theorem zcb {i:Nat} {x:Str} {pos':Pos} (hN:X.N.Nodup) (hi:X.N[i]?=some x) (hx:Loc X.env.scope x) (he:QE X e te) (hs:swapsWith e (some (.Name x pos')) pos.line X.env=pure false:=by rfl) (hf:X.fn x=true\/X.env.scope.names.lookup x=some .local:=by first | exact .inl rfl | exact .inr rfl | assumption) :
  QS X (.Assign [.Name x pos'] e pos) (tAsg te (gName i)):=⟨zap hN hi hx he.h hs hf⟩
end
theorem DefAt.calleeQ {P:Program} {w:World} {K:W.Frag} {mg:Str->Option Value} {base:Heap} {x:Str} {st:Stmt} {N ps:List Str} {k:Nat} {sp:Sp} (D:DefAt K mg x st) (S:FnScope N ps (defScope st))
  (hb:∀ (kV doc pm:Value) (an:Option Addr) (cdv ct:Value) (us:List Value),us.length=ps.length->bindArgs (PySem.W.fnOf x x (defArgs st) (defBody st) (defScope st) .none kV doc pm an cdv ct) ⟨us,[]⟩=pure (ps.zip us))
  (len:∀ vs H Q E,sp vs H Q E->vs.length=ps.length)
  (hbody:∀ (f:Addr) (cdv:Value) (A:Around) (outer:List Env) (s:Shared) (H:Hp) (vs:List V) (Q:VK) (E:XK),Room k (A.deeper (envOfC x (defScope st) s.heap.objs.size f cdv))->sp vs H Q E ->
   ∃ t,QSs (cxOf CX0 P w K mg base N x (defScope st) f cdv A outer s H E).nox (defBody st) t/\t { nx:=fun _ H'=>Q .non H',rt:=Q } (start N vs) H):Callee P w K mg base x (k + 1) ps sp :=
 D.callee S hb len fun f cdv A outer s H vs Q E hr h=>let ⟨t,q,r⟩:=hbody f cdv A outer s H vs Q E hr h; ⟨t,q.h,r⟩
theorem pe_cls {X:Cx} {x:Str} {C:Addr} {pos:Pos} (hg:Gl X x) (hm:X.mg x=some (.ref C)) (hd:(x == ("__debug__" : Str))=false:=by decide):PE X (.Name x pos) (tC (.ref C)):=zfC (v := .ref C) hg hm rfl hd
section
variable {K:W.Frag} {C D CE:Addr} {oc:Value} {od:Option Addr} {cd:ClassData} {sl:Array (Option Value)} {b:Bool}
end
theorem zch {H:Hp} {p l:Addr} {ys:List V} {o:HO} (h:H l=some (.lst ys)) (n:H p=none):upd H p o l=some (.lst ys):=by rw [zah (zai h n)]; exact h
theorem zgt {ns:List Int} {k:Int} (h0:0<=k) (h:k < (ns.length:Int)):atI (ns.map V.int) k=some (V.int (ns.getD k.toNat 0)):=by
 have hk:k.toNat < ns.length:=by omega
 have e:((k.toNat:Nat):Int)=k:=by omega
 rw [<- e]
 refine zaH ?_
 rw [List.getElem?_map,List.getD_eq_getElem?_getD,Int.toNat_natCast,List.getElem?_eq_getElem hk]
 rfl
theorem getD_big {ns:List Int} {k:Int} (h:¬ k < (ns.length:Int)):ns.getD k.toNat 0=0:=by
 rw [List.getD_eq_getElem?_getD,List.getElem?_eq_none (by omega)]
 rfl
theorem zcl {x:Str}:x.cps.toList.length=x.length:=by simp [Str.length]
theorem zaQ:1000<=sizeLine:=by decide
theorem big {n:Nat} (h:n<=1000):n<=sizeLine:=Nat.le_trans h zaQ
theorem bigr {n:Nat} (h:Nat.ble n 1000=true):n<=sizeLine:=big (Nat.le_of_ble_eq_true h)
theorem p2:(0:Int) < 2:=by decide
theorem p6:(0:Int) < 6:=by decide
theorem len_app (x y:Str):(x ++ y).length=x.length + y.length:=by
 have:=congrArg List.length (PySem.W.KT.app_list x y)
 rw [List.length_append,zcl,zcl,zcl] at this
 exact this
theorem zdD (c:Nat):(⟨#[c]⟩:Str).length=1:=rfl
theorem dec_ii {a b:Int}:decide (V.int a=V.int b)=decide (a=b):=by
 rw [decide_eq_decide]
 exact ⟨fun h=>by injection h,fun h=>by rw [h]⟩
theorem zca {i n:Nat} {lo:Int} {x:V} (h:((List.range n).map fun i=>V.int (lo + ((i:Nat):Int)))[i]?=some x):i < n/\x=V.int (lo + ((i:Nat):Int)):=by
 have hi:i < n:=by
  have:=(List.getElem?_eq_some_iff.mp h).1
  simpa using this
 rw [List.getElem?_map,List.getElem?_range hi] at h
 cases h
 exact ⟨hi,rfl⟩
noncomputable def small (c:Nat):Bool:=decide (97<=c) && decide (c<=122)
noncomputable def isName (x:Str):Bool:=(decide (1<=x.length) && decide (x.length<=6)) && x.cps.toList.all small
noncomputable def abc:Str:=Str.ofString "abcdefghijklmnopqrstuvwxyz"
theorem zdM:abc.cps.toList=(List.range 26).map (97 + ·):=by decide +kernel
theorem zey:abc.length=26:=by decide +kernel
theorem abc_at {k:Int} (h0:0<=k) (h:k < 26):∃ c,atI abc.cps.toList k=some c/\small c=true:=by
 have e:((k.toNat:Nat):Int)=k:=by omega
 refine ⟨97 + k.toNat,?_,?_⟩
 ·rw [<- e]
  refine zaH ?_
  rw [zdM,List.getElem?_map,List.getElem?_range (by omega),Int.toNat_natCast]
  rfl
 ·unfold small
  rw [decide_eq_true (by omega:97<=97 + k.toNat),decide_eq_true (by omega:97 + k.toNat<=122)]
  rfl
theorem zfH {x:Str} (h1:1<=x.length) (h2:x.length<=6) (h3:x.cps.toList.all small=true):isName x=true:=by
 unfold isName
 rw [decide_eq_true h1,decide_eq_true h2,h3]
 rfl
theorem name_one {c:Nat} (h:small c=true):isName ⟨#[c]⟩=true:=zfH (by rw [zdD]; decide) (by rw [zdD]; decide) (by simp [h])
theorem name_len {x:Str} (h:isName x=true):1<=x.length/\x.length<=6:=by
 unfold isName at h
 simp only [Bool.and_eq_true,decide_eq_true_eq] at h
 exact h.1
theorem app_list (x y:Str):(x ++ y).cps.toList=x.cps.toList ++ y.cps.toList:=PySem.W.KT.app_list x y
theorem zcf {α : Type} [DecidableEq α]:∀ {l m:List α},l.Nodup->(∀ x∈l,x∈m)->l.length<=m.length
 | [],_,_,_=>Nat.zero_le _
 | x :: l,m,hn,h=>by
  have hx:=h x List.mem_cons_self
  have hn:=List.nodup_cons.mp hn
  have ih:=zcf (m:=m.erase x) hn.2 fun y hy=>(List.mem_erase_of_ne (fun z:y=x=>hn.1 (by rw [<- z]; exact hy))).mpr (h y (List.mem_cons_of_mem _ hy))
  have e:=List.length_erase_of_mem hx
  have:=List.length_pos_of_mem hx
  rw [List.length_cons]
  omega
theorem zfM (x:Str) (us:List Str):inV (V.str x) (us.map V.str)=decide (x∈us):=by
 unfold inV
 rw [List.any_map,Bool.eq_iff_iff,List.any_eq_true,decide_eq_true_eq]
 constructor
 ·rintro ⟨y,hy,e⟩
  have e':(y == x)=true:=e
  rw [<- eq_of_beq e']; exact hy
 ·intro h
  exact ⟨x,h,beq_self_eq_true x⟩
theorem zea (us:List Str):(us.map V.str).all flatV=true:=by
 rw [List.all_map,List.all_eq_true]
 intro x _
 rfl
theorem spare_some (us:List Str) (h:us.length<=25):∃ c∈abc.cps.toList,(⟨#[c]⟩:Str) ∉ us:=by
 apply Classical.byContradiction
 intro hn
 have hall:∀ y∈abc.cps.toList.map (fun c=>(⟨#[c]⟩:Str)),y∈us:=fun y hy=>by
  obtain ⟨c,hc,rfl⟩:=List.mem_map.mp hy
  exact Classical.byContradiction fun z=>hn ⟨c,hc,z⟩
 have nd:(abc.cps.toList.map (fun c=>(⟨#[c]⟩:Str))).Nodup:=by
  rw [zdM,List.map_map]
  decide +kernel
 have:=zcf nd hall
 rw [List.length_map,zcl,zey] at this
 omega
theorem abc_small {c:Nat} (h:c∈abc.cps.toList):small c=true:=by
 rw [zdM] at h
 obtain ⟨i,hi,rfl⟩:=List.mem_map.mp h
 have:=List.mem_range.mp hi
 unfold small
 rw [decide_eq_true (by omega:97<=97 + i),decide_eq_true (by omega:97 + i<=122)]
 rfl
theorem zc0:∀ (ns acc:List Int),(ns.foldl step_dedup acc).length<=acc.length + ns.length/\(acc.Nodup->((ns.foldl step_dedup acc).length=acc.length + ns.length ↔ (acc ++ ns).Nodup))
 | [],acc=>⟨by simp,fun h=>by simp [h]⟩
 | n :: ns,acc=>by
  rw [List.foldl_cons]
  by_cases hm:n∈acc
  ·have e:step_dedup acc n=acc:=by
    unfold step_dedup
    rw [if_pos (List.any_eq_true.mpr ⟨n,hm,by simp⟩)]
   rw [e]
   have ih:=zc0 ns acc
   refine ⟨by have:=ih.1; rw [List.length_cons]; omega,fun _=>⟨fun z => ?_,fun z => ?_⟩⟩
   ·have:=ih.1
    rw [List.length_cons] at z
    omega
   ·exact absurd rfl ((List.nodup_append.mp z).2.2 n hm n List.mem_cons_self)
  ·have e:step_dedup acc n=acc ++ [n]:=by
    unfold step_dedup
    rw [if_neg]
    intro z
    obtain ⟨x,hx,ex⟩:=List.any_eq_true.mp z
    have:x=n:=by simpa using ex
    subst this
    exact hm hx
   rw [e]
   have ih:=zc0 ns (acc ++ [n])
   rw [List.length_append,List.length_singleton,List.append_assoc] at ih
   refine ⟨by have:=ih.1; rw [List.length_cons]; omega,fun h => ?_⟩
   have hn:(acc ++ [n]).Nodup:=by
    refine List.nodup_append.mpr ⟨h,by simp,fun a ha b hb => ?_⟩
    have:b=n:=by simpa using hb
    subst this
    intro z
    subst z
    exact hm ha
   have:=ih.2 hn
   rw [List.length_cons]
   rw [show acc.length + (ns.length + 1)=acc.length + 1 + ns.length by omega]
   exact this
theorem many_eq (ns:List Int):many ns=(ns.foldl step_dedup []).length:=by
 unfold many firstMet
 congr 2
 apply List.ext_getElem?
 intro i
 rw [List.getElem?_map]
 by_cases h:i < ns.length
 ·rw [List.getElem?_range h]
  simp [List.getD_eq_getElem?_getD,h]
 ·rw [List.getElem?_eq_none (by simpa using h),List.getElem?_eq_none (by simpa using h)]
  rfl
theorem many_nodup (ns:List Int):many ns=ns.length ↔ ns.Nodup:=by
 rw [many_eq]
 have:=(zc0 ns []).2 List.nodup_nil
 simpa using this
noncomputable def inR (t:Int):Bool:=decide (0<=t) && decide (t<=7)
noncomputable def areTeeth (ts:List Int):Bool:=decide (0∈ts) && (decide (many ts=ts.length) && ts.all inR)
theorem in_zero (ts:List Int):inV (V.int 0) (ts.map V.int)=decide (0∈ts):=by
 unfold inV
 rw [List.any_map,Bool.eq_iff_iff,List.any_eq_true,decide_eq_true_eq]
 constructor
 ·rintro ⟨x,hx,e⟩
  have:x=0:=by
   have e':(x == 0)=true:=e
   exact eq_of_beq e'
  rw [<- this]; exact hx
 ·intro h
  exact ⟨0,h,rfl⟩
theorem zf8 (ts:List Int):(ts.map V.int).all flatV=true:=by
 rw [List.all_map,List.all_eq_true]
 intro x _
 rfl
noncomputable def KindsL (G:Addr->Prop) (H:Hp):List V->List (Str×List Int)->Prop
 | [],[]=>True
 | v :: vs,k :: ks=>(∃ q t,v = .ref q/\H q=some (.lst [.str k.1,.ref t])/\H t=some (.lst (k.2.map V.int))/\G q/\G t)/\KindsL G H vs ks
 | _,_=>False
theorem KindsL.mono {G G':Addr->Prop} {H H':Hp} (s:∀ a o,G a->H a=some o->H' a=some o) (g:∀ a,G a->G' a):∀ {vs:List V} {ks:List (Str×List Int)},KindsL G H vs ks->KindsL G' H' vs ks
 | [],[],_=>trivial
 | _ :: _,_ :: _,⟨⟨q,t,e,h1,h2,g1,g2⟩,r⟩=>⟨⟨q,t,e,s _ _ g1 h1,s _ _ g2 h2,g _ g1,g _ g2⟩,KindsL.mono s g r⟩
 | [],_ :: _,h=>h.elim
 | _ :: _,[],h=>h.elim
theorem KindsL.same {G:Addr->Prop} {H H':Hp} {vs:List V} {ks:List (Str×List Int)} (s:Same H H') (h:KindsL G H vs ks):KindsL G H' vs ks:=h.mono (fun a o _ e=>s a o e) fun _ g=>g
theorem KindsL.upd {G:Addr->Prop} {H:Hp} {p:Addr} {o:HO} {vs:List V} {ks:List (Str×List Int)} (h:KindsL G H vs ks) (n:¬ G p):KindsL G (upd H p o) vs ks:=h.mono (fun a u g e=>by rw [zah (fun z:a=p=>n (by rw [<- z]; exact g))]; exact e) fun _ g=>g
theorem KindsL.snoc {G:Addr->Prop} {H:Hp} {q t:Addr} {k:Str×List Int} (h1:H q=some (.lst [.str k.1,.ref t])) (h2:H t=some (.lst (k.2.map V.int))) (g1:G q) (g2:G t):∀ {vs:List V} {ks:List (Str×List Int)},KindsL G H vs ks->KindsL G H (vs ++ [.ref q]) (ks ++ [k])
 | [],[],_=>⟨⟨q,t,rfl,h1,h2,g1,g2⟩,trivial⟩
 | _ :: _,_ :: _,⟨a,b⟩=>⟨a,KindsL.snoc h1 h2 g1 g2 b⟩
 | [],_ :: _,x=>x.elim
 | _ :: _,[],x=>x.elim
theorem KindsL.length {G:Addr->Prop} {H:Hp}:∀ {vs:List V} {ks:List (Str×List Int)},KindsL G H vs ks->vs.length=ks.length
 | [],[],_=>rfl
 | _ :: _,_ :: _,⟨_,b⟩=>by rw [List.length_cons,List.length_cons,KindsL.length b]
 | [],_ :: _,x=>x.elim
 | _ :: _,[],x=>x.elim
theorem KindsL.get {G:Addr->Prop} {H:Hp}:∀ {vs:List V} {ks:List (Str×List Int)} {i:Nat} {v:V},KindsL G H vs ks->vs[i]?=some v->∃ k q t,ks[i]?=some k/\v = .ref q/\H q=some (.lst [.str k.1,.ref t])/\H t=some (.lst (k.2.map V.int))
 | [],[],_,_,_,e=>by simp at e
 | _ :: _,k :: _,0,_,⟨⟨q,t,e,h1,h2,_⟩,_⟩,z=>by
  simp at z
  subst z
  exact ⟨k,q,t,rfl,e,h1,h2⟩
 | _ :: _,_ :: _,i + 1,_,⟨_,b⟩,z=>by
  obtain ⟨k,q,t,h⟩:=KindsL.get (i:=i) b (by simpa using z)
  exact ⟨k,q,t,by simpa using h⟩
 | [],_ :: _,_,_,x,_=>x.elim
 | _ :: _,[],_,_,x,_=>x.elim
noncomputable def GT (ts:List Int):Prop:=∃ f:Nat->Bool,ts=((List.range 8).filter f).map (fun i=>((i:Nat):Int))/\f 0=true
structure Drawn (G:Addr->Prop) (H:Hp) (vs:List V) (ks:List (Str×List Int)):Prop where
 rows:KindsL G H vs ks
 nd:(ks.map (·.1)).Nodup
 good:∀ k∈ks,isName k.1=true/\GT k.2
theorem Drawn.same {G:Addr->Prop} {H H':Hp} {vs:List V} {ks:List (Str×List Int)} (d:Drawn G H vs ks) (s:Same H H'):Drawn G H' vs ks:=⟨d.rows.same s,d.nd,d.good⟩
theorem Drawn.upd {G:Addr->Prop} {H:Hp} {p:Addr} {o:HO} {vs:List V} {ks:List (Str×List Int)} (d:Drawn G H vs ks) (n:¬ G p):Drawn G (upd H p o) vs ks:=⟨d.rows.upd n,d.nd,d.good⟩
theorem Drawn.any {G:Addr->Prop} {H:Hp} {vs:List V} {ks:List (Str×List Int)} (d:Drawn G H vs ks):Drawn (fun _=>True) H vs ks:=⟨d.rows.mono (fun _ _ _ e=>e) fun _ _=>trivial,d.nd,d.good⟩
theorem Drawn.snoc {G:Addr->Prop} {H:Hp} {vs:List V} {ks:List (Str×List Int)} {q t:Addr} {k:Str×List Int} (d:Drawn G H vs ks) (h1:H q=some (.lst [.str k.1,.ref t])) (h2:H t=some (.lst (k.2.map V.int))) (g1:G q) (g2:G t) (hn:k.1 ∉ ks.map (·.1)) (hk:isName k.1=true/\GT k.2):Drawn G H (vs ++ [.ref q]) (ks ++ [k]):=by
 refine ⟨KindsL.snoc h1 h2 g1 g2 d.rows,?_,fun x hx => ?_⟩
 ·rw [List.map_append]
  refine List.nodup_append.mpr ⟨d.nd,by simp,fun a ha b hb => ?_⟩
  have e:b=k.1:=by simpa using hb
  rw [e]
  exact fun z=>hn (z ▸ ha)
 ·rcases List.mem_append.mp hx with z | z
  ·exact d.good x z
  ·rw [List.mem_singleton.mp z]; exact hk
noncomputable abbrev Combs:=List (Str×List Int)
noncomputable def cGet (cs:Combs) (x:Str):Option (List Int):=(cs.find? fun c=>decide (c.1=x)).map (·.2)
noncomputable def cPut (cs:Combs) (x:Str) (ts:List Int):Combs:=if (cs.any fun c=>decide (c.1=x))=true then cs.map (fun c=>if c.1=x then (c.1,ts) else c) else cs ++ [(x,ts)]
noncomputable def canon (ts:List Int):List Int:=((List.range 8).filter fun i=>decide (((i:Nat):Int)∈ts)).map fun i=>((i:Nat):Int)
theorem zgg (f:Nat->Bool):(((List.range 8).filter f).map fun i=>((i:Nat):Int)).Pairwise (· < ·):=by
 rw [List.pairwise_map]
 refine List.Pairwise.sublist List.filter_sublist ?_
 refine List.Pairwise.imp ?_ (List.pairwise_lt_range (n:=8))
 intro a b h
 omega
theorem zdK (ts:List Int):(canon ts).Pairwise (· < ·):=zgg _
theorem mem_canon {ts:List Int} {t:Int}:t∈canon ts ↔ t∈ts/\0<=t/\t<=7:=by
 unfold canon
 simp only [List.mem_map,List.mem_filter,List.mem_range,decide_eq_true_eq]
 constructor
 ·rintro ⟨i,⟨hi,hm⟩,rfl⟩
  exact ⟨hm,by omega,by omega⟩
 ·rintro ⟨hm,h0,h7⟩
  refine ⟨t.toNat,⟨by omega,?_⟩,by omega⟩
  rwa [show ((t.toNat:Nat):Int)=t by omega]
theorem zaW {l:List Int} (h:l.Pairwise (· < ·)):l.Nodup:=h.imp fun h=>by omega
theorem zbX (ts:List Int):(canon ts).Nodup:=zaW (zdK ts)
theorem zbr {a b:List Int} (hp:a.Perm b) (ha:a.Pairwise (· <= ·)) (hb:b.Pairwise (· <= ·)):a=b :=
 hp.eq_of_pairwise (fun x y _ _ h1 h2=>Int.le_antisymm h1 h2) ha hb
theorem zdJ {ns ts:List Int} (hp:ns.Perm ts) (hs:ns.Pairwise (· <= ·)) (hn:ts.Nodup) (hr:∀ t∈ts,0<=t/\t<=7):ns=canon ts:=by
 refine zbr (hp.trans ?_) hs ((zdK ts).imp fun h=>by omega)
 rw [List.perm_ext_iff_of_nodup hn (zbX ts)]
 intro t
 rw [mem_canon]
 exact ⟨fun h=>⟨h,hr t h⟩,fun h=>h.1⟩
theorem zfe {ts:List Int} (h:GT ts):ts.Pairwise (· < ·):=by
 obtain ⟨f,rfl,_⟩:=h
 exact zgg f
theorem zff {ts:List Int} (h:GT ts):∀ t∈ts,0<=t/\t<=7:=by
 obtain ⟨f,rfl,_⟩:=h
 intro t ht
 obtain ⟨i,hi,rfl⟩:=List.mem_map.mp ht
 have:=List.mem_range.mp (List.mem_filter.mp hi).1
 omega
theorem zfO {ts:List Int} (h:GT ts):(0:Int)∈ts:=by
 obtain ⟨f,rfl,h0⟩:=h
 exact List.mem_map.mpr ⟨0,List.mem_filter.mpr ⟨by decide,h0⟩,rfl⟩
theorem gt_canon {ts:List Int} (h0:(0:Int)∈ts):GT (canon ts):=⟨_,rfl,decide_eq_true h0⟩
theorem gt_eq {ts:List Int} (h:GT ts):canon ts=ts:=by
 symm
 refine zdJ (List.Perm.refl _) ((zfe h).imp fun h=>by omega) (zaW (zfe h)) (zff h)
theorem zgl {ts:List Int} (h:GT ts):ts.length<=8:=by
 obtain ⟨f,rfl,_⟩:=h
 rw [List.length_map]
 exact Nat.le_trans (List.length_filter_le _ _) (by simp)
theorem canon_len (ts:List Int):(canon ts).length<=8:=by
 unfold canon
 rw [List.length_map]
 exact Nat.le_trans (List.length_filter_le _ _) (by simp)
theorem inR_iff {t:Int}:inR t=true ↔ 0<=t/\t<=7:=by unfold inR; simp
theorem teeth_iff {ts:List Int}:areTeeth ts=true ↔ (0:Int)∈ts/\ts.Nodup/\∀ t∈ts,0<=t/\t<=7:=by
 unfold areTeeth
 simp only [Bool.and_eq_true,decide_eq_true_eq,many_nodup,List.all_eq_true,inR_iff]
theorem zcJ {ts:List Int} (hn:ts.Nodup) (hr:∀ t∈ts,0<=t/\t<=7):ts.length<=8:=by
 have:ts.length<=(canon ts).length:=zcf hn fun x hx=>mem_canon.mpr ⟨hx,hr x hx⟩
 have:=canon_len ts
 omega
theorem gt_teeth {ts:List Int} (h:GT ts):areTeeth ts=true:=teeth_iff.mpr ⟨zfO h,zaW (zfe h),zff h⟩
structure Good (cs:Combs):Prop where
 len:cs.length<=8
 nd:(cs.map (·.1)).Nodup
 ok:∀ c∈cs,isName c.1=true/\GT c.2
theorem good_nil:Good []:=⟨by decide,List.nodup_nil,by simp⟩
theorem zfR {cs:Combs} {x:Str} {ts:List Int} (h:cGet cs x=some ts):(x,ts)∈cs:=by
 unfold cGet at h
 obtain ⟨c,hc,rfl⟩:=Option.map_eq_some_iff.mp h
 have h1:=List.mem_of_find?_eq_some hc
 have h2:c.1=x:=by simpa using List.find?_some hc
 rw [<- h2]
 exact h1
theorem get_none {cs:Combs} {x:Str}:cGet cs x=none ↔ x ∉ cs.map (·.1):=by
 unfold cGet
 rw [Option.map_eq_none_iff,List.find?_eq_none]
 simp only [decide_eq_true_eq,List.mem_map,not_exists,not_and]
theorem zex {cs:Combs} {x:Str}:(cs.any fun c=>decide (c.1=x))=(cGet cs x).isSome:=by
 rw [Bool.eq_iff_iff,List.any_eq_true,Option.isSome_iff_ne_none,ne_eq,get_none,Classical.not_not,List.mem_map]
 simp
theorem zcE {c:Str×List Int} {cs:Combs} {x:Str}:cGet (c :: cs) x=if c.1=x then some c.2 else cGet cs x:=by
 unfold cGet
 rw [List.find?_cons]
 by_cases h:c.1=x
 ·simp [h]
 ·simp [h]
theorem zfw {cs:Combs} {x:Str} {ts:List Int} (h:cGet cs x=none):cPut cs x ts=cs ++ [(x,ts)]:=by
 unfold cPut
 rw [zex,h]
 rfl
theorem zen {cs:Combs} {x:Str} {ts us:List Int} (h:cGet cs x=some us):cPut cs x ts=cs.map (fun c=>if c.1=x then (c.1,ts) else c):=by
 unfold cPut
 rw [zex,h]
 rfl
theorem put_keys {cs:Combs} {x:Str} {ts us:List Int} (h:cGet cs x=some us):(cPut cs x ts).map (·.1)=cs.map (·.1):=by
 rw [zen h,List.map_map]
 apply List.map_congr_left
 intro c _
 show (if c.1=x then (c.1,ts) else c).1=c.1
 split <;> rfl
theorem Good.put {cs:Combs} {x:Str} {ts:List Int} (g:Good cs) (hx:isName x=true) (ht:GT ts) (hl:cs.length < 8\/(cGet cs x).isSome=true):Good (cPut cs x ts):=by
 cases e:cGet cs x with
 | none =>
  rw [zfw e]
  refine ⟨?_,?_,?_⟩
  ·rw [e] at hl
   rw [List.length_append,List.length_singleton]
   rcases hl with h | h
   ·omega
   ·cases h
  ·rw [List.map_append]
   exact zfG g.nd (get_none.mp e)
  ·intro c hc
   rcases List.mem_append.mp hc with h | h
   ·exact g.ok c h
   ·rw [List.mem_singleton.mp h]; exact ⟨hx,ht⟩
 | some us =>
  refine ⟨?_,by rw [put_keys e]; exact g.nd,?_⟩
  ·rw [zen e,List.length_map]; exact g.len
  ·rw [zen e]
   intro c hc
   obtain ⟨c0,h0,rfl⟩:=List.mem_map.mp hc
   split
   ·exact ⟨(g.ok c0 h0).1,ht⟩
   ·exact g.ok c0 h0
noncomputable def KvR (G:Addr->Prop) (H:Hp):List (Key×V)->Combs->Prop:=Paired fun kv c=>∃ t,kv=(Sum.inr c.1,V.ref t)/\H t=some (.lst (c.2.map V.int))/\G t
noncomputable def DictR (G:Addr->Prop) (H:Hp) (d:Addr) (cs:Combs):Prop:=G d/\∃ kvs,H d=some (.dK kvs)/\KvR G H kvs cs
theorem KvR.mono {G G':Addr->Prop} {H H':Hp} {kvs:List (Key×V)} {cs:Combs} (s:∀ a o,G a->H a=some o->H' a=some o) (g:∀ a,G a->G' a) (h:KvR G H kvs cs):KvR G' H' kvs cs :=
 Paired.mono (fun _ _ ⟨t,e,h1,g1⟩=>⟨t,e,s _ _ g1 h1,g _ g1⟩) h
theorem DictR.mono {G G':Addr->Prop} {H H':Hp} {d:Addr} {cs:Combs} (s:∀ a o,G a->H a=some o->H' a=some o) (g:∀ a,G a->G' a) (h:DictR G H d cs):DictR G' H' d cs :=
 let ⟨g0,kvs,e,r⟩:=h
 ⟨g _ g0,kvs,s _ _ g0 e,r.mono s g⟩
theorem KvR.keys {G:Addr->Prop} {H:Hp}:∀ {kvs:List (Key×V)} {cs:Combs},KvR G H kvs cs->kvs.map (·.1)=(cs.map (·.1)).map Sum.inr
 | _,_,.nil=>rfl
 | _,_,.cons ⟨t,e,_⟩ r=>by
  subst e
  show _ :: _=_ :: _
  rw [show List.map _ _=_ from KvR.keys r]
theorem KvR.val {G:Addr->Prop} {H:Hp} {x:Str}:∀ {kvs:List (Key×V)} {cs:Combs},KvR G H kvs cs ->
  (cGet cs x=none/\valV kvs (Sum.inr x)=none)\/∃ ts t,cGet cs x=some ts/\valV kvs (Sum.inr x)=some (.ref t)/\H t=some (.lst (ts.map V.int))/\G t
 | _,_,.nil => .inl ⟨rfl,rfl⟩
 | _,_,.cons (b:=c) ⟨t,e,h1,g1⟩ r=>by
  subst e
  by_cases h:c.1=x
  ·refine .inr ⟨c.2,t,by rw [zcE,if_pos h],zaO (by rw [h]),h1,g1⟩
  ·have hn:¬ ((Sum.inr c.1:Key)=Sum.inr x):=fun z=>h (Sum.inr.inj z)
   rcases KvR.val (x:=x) r with ⟨e1,e2⟩ | ⟨ts,t',e1,e2,e3⟩
   ·exact .inl ⟨by rw [zcE,if_neg h]; exact e1,by rw [zaL hn]; exact e2⟩
   ·exact .inr ⟨ts,t',by rw [zcE,if_neg h]; exact e1,by rw [zaL hn]; exact e2,e3⟩
theorem KvR.some {G:Addr->Prop} {H:Hp} {kvs:List (Key×V)} {cs:Combs} {x:Str} (r:KvR G H kvs cs):(valV kvs (Sum.inr x)).isSome=(cGet cs x).isSome:=by
 rcases r.val (x:=x) with ⟨e1,e2⟩ | ⟨ts,t',e1,e2,e3⟩
 ·rw [e1,e2]; rfl
 ·rw [e1,e2]; rfl
theorem KvR.map {G:Addr->Prop} {H:Hp} {x:Str} {t:Addr} {ts:List Int} (h1:H t = .some (.lst (ts.map V.int))) (g1:G t):∀ {kvs:List (Key×V)} {cs:Combs},KvR G H kvs cs ->
  KvR G H (kvs.map fun kv=>if kv.1=Sum.inr x then (kv.1,V.ref t) else kv) (cs.map fun c=>if c.1=x then (c.1,ts) else c)
 | _,_,.nil => .nil
 | _,_,.cons (b:=c) ⟨t',e,h2,g2⟩ r=>by
  subst e
  refine .cons ?_ (KvR.map h1 g1 r)
  dsimp only
  by_cases hx:c.1=x
  ·rw [if_pos hx,if_pos (by rw [hx])]
   exact ⟨t,rfl,h1,g1⟩
  ·rw [if_neg hx,if_neg (fun z=>hx (Sum.inr.inj z))]
   exact ⟨t',rfl,h2,g2⟩
theorem KvR.put {G:Addr->Prop} {H:Hp} {kvs:List (Key×V)} {cs:Combs} {x:Str} {t:Addr} {ts:List Int} (r:KvR G H kvs cs) (h1:H t = .some (.lst (ts.map V.int))) (g1:G t):KvR G H (putK kvs (Sum.inr x) (.ref t)) (cPut cs x ts):=by
 unfold putK cPut
 rw [za8,zex,r.some]
 split
 ·exact r.map h1 g1
 ·exact Paired.snoc r ⟨t,rfl,h1,g1⟩
noncomputable abbrev PastR (G:Addr->Prop) (H:Hp):List V->List Combs->Prop:=Paired fun v cs=>∃ d,v = .ref d/\DictR G H d cs
structure Bk (C:Addr) (G:Addr->Prop) (H:Hp) (b l:Addr) (cs:Combs) (past:List Combs):Prop where
 live:∀ x,G x->H x≠none
 nb:¬ G b
 nl:¬ G l
 ins:∃ dx d,H b=some (.ins C dx [("combs",.ref d),("past",.ref l)])/\DictR G H d cs
 lst:∃ vs,H l=some (.lst vs)/\PastR G H vs past
 good:Good cs
 goods:∀ p∈past,Good p
 few:past.length<=300
theorem Bk.move {C:Addr} {G:Addr->Prop} {H H':Hp} {b l:Addr} {cs:Combs} {past:List Combs} (B:Bk C G H b l cs past) (s:∀ a o,G a\/a=b\/a=l->H a=some o->H' a=some o):Bk C G H' b l cs past:=by
 have s':∀ a o,G a->H a=some o->H' a=some o:=fun a o g e=>s a o (.inl g) e
 obtain ⟨dx,d,e1,r1⟩:=B.ins
 obtain ⟨vs,e2,r2⟩:=B.lst
 refine ⟨fun x g => ?_,B.nb,B.nl,⟨dx,d,s _ _ (.inr (.inl rfl)) e1,r1.mono s' fun _ g=>g⟩,⟨vs,s _ _ (.inr (.inr rfl)) e2,?_⟩,B.good,B.goods,B.few⟩
 ·have:=B.live x g
  cases e:H x with
  | none=>exact absurd e this
  | some o=>rw [s' x o g e]; simp
 ·exact Paired.mono (fun _ _ ⟨d,e,r⟩=>⟨d,e,r.mono s' fun _ g=>g⟩) r2
theorem Bk.same {C:Addr} {G:Addr->Prop} {H H':Hp} {b l:Addr} {cs:Combs} {past:List Combs} (B:Bk C G H b l cs past) (s:Same H H'):Bk C G H' b l cs past:=B.move fun a o _ e=>s a o e
theorem Bk.liveB {C:Addr} {G:Addr->Prop} {H:Hp} {b l:Addr} {cs:Combs} {past:List Combs} (B:Bk C G H b l cs past):H b≠none/\H l≠none:=by
 obtain ⟨dx,d,e1,r1⟩:=B.ins
 obtain ⟨vs,e2,r2⟩:=B.lst
 exact ⟨by rw [e1]; simp,by rw [e2]; simp⟩
structure Mv (b l:Addr) (G G':Addr->Prop) (H H':Hp):Prop where
 keep:∀ a o,H a=some o->a≠b->a≠l->H' a=some o
 on:∀ a,H a≠none->H' a≠none
 new:∀ a,G' a->G a\/H a=none
theorem zd3 {H H':Hp} (s:Same H H'):∀ a,H a≠none->H' a≠none:=fun a h=>by
 cases e:H a with
 | none=>exact absurd e h
 | some o=>rw [s a o e]; simp
theorem Mv.ofSame {b l:Addr} {G:Addr->Prop} {H H':Hp} (s:Same H H'):Mv b l G G H H':=⟨fun a o e _ _=>s a o e,zd3 s,fun _ g => .inl g⟩
theorem Mv.trans {b l:Addr} {G G1 G2:Addr->Prop} {H H1 H2:Hp} (m:Mv b l G G1 H H1) (m':Mv b l G1 G2 H1 H2):Mv b l G G2 H H2:=by
 refine ⟨fun a o e n1 n2=>m'.keep a o (m.keep a o e n1 n2) n1 n2,fun a h=>m'.on a (m.on a h),fun a g => ?_⟩
 rcases m'.new a g with g1 | e
 ·exact m.new a g1
 ·refine .inr ?_
  cases q:H a with
  | none=>rfl
  | some o=>exact absurd e (m.on a (by rw [q]; simp))
noncomputable def Deed (ea:Nat->Addr) (C:Addr) (G:Addr->Prop) (H:Hp) (b l:Addr) (cs:Combs) (past:List Combs) (Q:VK) (E:XK):Except Nat Combs->Prop
 | .error j=>∀ H',Same H H'->E (.ref (ea j)) none H'
 | .ok cs'=>∀ H' G',Mv b l G G' H H'->Bk C G' H' b l cs' (past ++ [cs])->Q (.int ((past.length:Int) + 1)) H'
theorem Deed.from {ea:Nat->Addr} {C:Addr} {G:Addr->Prop} {H H1:Hp} {b l:Addr} {cs:Combs} {past:List Combs} {Q:VK} {E:XK} {r:Except Nat Combs} (d:Deed ea C G H b l cs past Q E r) (s:Same H H1):Deed ea C G H1 b l cs past Q E r:=by
 cases r with
 | error j=>exact fun H' s'=>d H' (s.trans s')
 | ok cs'=>exact fun H' G' m B=>d H' G' ((Mv.ofSame s).trans m) B
noncomputable def full (past:List Combs) (cs':Combs):Except Nat Combs:=if 300<=past.length then .error 9 else .ok cs'
noncomputable def putD (cs:Combs) (past:List Combs) (x:Str) (ts:List Int):Except Nat Combs :=
 if isName x=false then .error 0 else if areTeeth ts=false then .error 1 else if (cGet cs x).isSome=true then .error 2 else if 8<=cs.length then .error 3 else full past (cPut cs x (canon ts))
theorem call_dictD {X:Cx}:CallR X (.type "dict") (fun xs H Q=>∃ a kvs,xs = [V.ref a]/\Rd H a (.dK kvs)/\∀ p,H p=none->Q (.ref p) (upd H p (.dK kvs))):=by
 intro pins s σ H xs us Q I r h
 obtain ⟨a,kvs,rfl,ha,q⟩:=h
 obtain ⟨u,rfl,ru⟩:=zbq r
 cases ru
 exact d_copyOf I ha fun p s' np I'=>⟨.ref p,_,I',rfl,q p np⟩
noncomputable def sle (a b:Str):Prop:=a.cps.toList<=b.cps.toList
theorem sle_iff {a b:Str}:sle a b ↔ ltCps b.cps.toList a.cps.toList=false:=by
 unfold sle
 rw [ltCps_eq,decide_eq_false_iff_not,List.not_lt]
theorem sle_trans {a b c:Str} (h1:sle a b) (h2:sle b c):sle a c:=List.le_trans h1 h2
theorem sle_antisymm {a b:Str} (h1:sle a b) (h2:sle b a):a=b:=by
 have:=List.le_antisymm h1 h2
 cases a; cases b
 simp only at this
 rw [Str.mk.injEq,<- Array.toList_inj]
 exact this
theorem zdg:∀ {l:List Str} {p:Str},risingS p l=true->(p :: l).Pairwise sle
 | [],p,_=>by simp
 | x :: r,p,h=>by
  simp only [risingS,Bool.and_eq_true,Bool.not_eq_true'] at h
  have ih:=zdg h.2
  have hpx:sle p x:=sle_iff.mpr h.1
  refine List.pairwise_cons.mpr ⟨fun y hy => ?_,ih⟩
  rcases List.mem_cons.mp hy with rfl | hm
  ·exact hpx
  ·exact sle_trans hpx ((List.pairwise_cons.mp ih).1 y hm)
theorem zdd {l:List Str} (h:sortedS l=true):l.Pairwise sle:=by
 cases l with
 | nil=>exact List.Pairwise.nil
 | cons x r=>exact zdg h
theorem strs_same {a b:List Str} (hp:a.Perm b) (ha:sortedS a=true) (hb:sortedS b=true):a=b :=
 hp.eq_of_pairwise (fun _ _ _ _ h1 h2=>sle_antisymm h1 h2) (zdd ha) (zdd hb)
theorem atI_int {α : Type} {xs:List α} {k:Int} {v : α} (h0:0<=k) (h:xs[k.toNat]?=some v):atI xs k=some v:=by
 have e:((k.toNat:Nat):Int)=k:=by omega
 rw [<- e]
 exact zaH h
noncomputable def valErr:List Value := [.type "ValueError",.type "Exception",.type "BaseException",.type "object"]
structure BookAt (K:W.Frag) (C:Addr):Prop where
 cls:Cls K C
 nc:NoAttr K C "combs"
 np:NoAttr K C "past"
noncomputable def bookChk (K:W.Frag) (C:Addr):Bool:=PySem.W.plainGet K C Str.empty && (PySem.W.hasDictIn K C && (PySem.W.plainOver K C && (PySem.W.findIn K (.ref C) "__setattr__" == some (some (.builtin "object.__setattr__")) && (PySem.W.findIn K (.ref C) "combs" == some none && PySem.W.findIn K (.ref C) "past" == some none))))
theorem book_of {K:W.Frag} {C:Addr} (h:bookChk K C=true):BookAt K C:=by
 unfold bookChk at h
 simp only [Bool.and_eq_true,beq_iff_eq] at h
 obtain ⟨h1,h2,h3,h4,h5,h6⟩:=h
 exact ⟨⟨h1,h2,h3,h4⟩,h5,h6⟩
theorem meth_mk {K:W.Frag} {C:Addr} {cn m:Str} {st:Stmt} {f:Addr} {oc:Value} {od an:Option Addr} {osl:Array (Option Value)} {kV doc pm cdv ct:Value} (a:PySem.W.findIn K (.ref C) m=some (some (.ref f)))
  (l:K.lookup f=some ⟨oc,od,.func (PySem.W.fnOf m (cn ++ Str.ofString "." ++ m) (defArgs st) (defBody st) (defScope st) .none kV doc pm an cdv ct),osl⟩) (c:PySem.W.codeIn K cdv (cn ++ Str.ofString "." ++ m)=true) (k:PySem.W.keepIn K (.ref f)=true) (i:PySem.W.isFn K (.ref f)=true):MethAt K C cn m st :=
 ⟨f,_,zfS l c k,a,i,k⟩
structure InitAt (K:W.Frag) (mg:Str->Option Value) (C:Addr) (x qual:Str) (st:Stmt):Prop where
 ex:∃ f fd,Mk K C f/\Fun K "__init__" qual st f fd
 m:mg x=some (.ref C)
theorem init_mk {K:W.Frag} {mg:Str->Option Value} {C:Addr} {x qual:Str} {st:Stmt} {f:Addr} {oc:Value} {od an:Option Addr} {osl:Array (Option Value)} {kV doc pm cdv ct:Value} (hm:mg x=some (.ref C)) (a:PySem.W.findIn K (.ref C) "__init__" = some (some (.ref f)))
  (l:K.lookup f=some ⟨oc,od,.func (PySem.W.fnOf "__init__" qual (defArgs st) (defBody st) (defScope st) .none kV doc pm an cdv ct),osl⟩) (c:PySem.W.codeIn K cdv qual=true) (k:PySem.W.keepIn K (.ref f)=true) (i:PySem.W.isFn K (.ref f)=true) (k2:PySem.W.keepIn K (.ref C)=true) (mk:PySem.W.makesIn K C=true):InitAt K mg C x qual st :=
 ⟨⟨f,_,⟨mk,a,i,k2⟩,zfS l c k⟩,hm⟩
theorem ref_mk {K:W.Frag} {mg:Str->Option Value} {h:Heap} {x:Str} {f:Addr} (X:K.In h) (G:h.Ns mainGlobals mg) (a:PySem.W.nsIn K mainGlobals x=some (some (.ref f))):mg x=some (.ref f):=PySem.W.mg_of X G a
theorem at_last {α : Type} (l:List α) (a : α):atI (l ++ [a]) (-1)=some a:=by
 unfold atI ixN
 rw [if_neg (by decide),if_pos (by rw [List.length_append,List.length_singleton]; omega)]
 have e:((-1:Int) + (((l ++ [a]).length:Nat):Int)).toNat=l.length:=by rw [List.length_append,List.length_singleton]; omega
 rw [e]
 simp
section
variable {X:Cx}
end
section
variable {X:Cx} {T id:String} {name:Str} {r:V->List V->Hp->VK->Prop} {o e:Expr} {es:List Expr} {to:TE} {t:TA} {apos cpos:Pos}
end
noncomputable def pw (t:Int):Int:=2 ^ t.toNat
noncomputable def worth (ts:List Int):Int:=(ts.map pw).sum
noncomputable def aheadOf (n:Int):List Int:=((List.range 7).filter fun d=>n.toNat.testBit d).map fun i=>((i:Nat):Int)
noncomputable def meets (ah ts:List Int):Bool:=ts.any fun t=>decide (t∈ah)
noncomputable def afterOf (ah ts:List Int):List Int:=((canon (ah ++ ts)).filter fun d=>decide (0 < d)).map fun d=>d - 1
theorem zdN:worth []=0:=rfl
theorem zaN (t:Int) (ts:List Int):worth (t :: ts)=pw t + worth ts:=rfl
theorem zct (a b:List Int):worth (a ++ b)=worth a + worth b:=by
 induction a with
 | nil=>simp [worth]
 | cons t a ih=>rw [List.cons_append,zaN,zaN,ih]; omega
theorem worth_perm {a b:List Int} (h:a.Perm b):worth a=worth b:=by
 induction h with
 | nil=>rfl
 | cons x _ ih=>rw [zaN,zaN,ih]
 | swap x y l=>simp only [zaN]; omega
 | trans _ _ h1 h2=>exact h1.trans h2
theorem pw_pos (t:Int):0 < pw t:=by unfold pw; exact Int.pow_pos (by decide)
theorem zeA (ts:List Int):0<=worth ts:=by
 induction ts with
 | nil=>exact Int.le_refl _
 | cons t ts ih=>rw [zaN]; have:=pw_pos t; omega
noncomputable def bitSum (f:Nat->Bool):Nat->Nat
 | 0=>0
 | k + 1=>2 ^ k * (if f k then 1 else 0) + bitSum f k
theorem zbZ (f:Nat->Bool) (k:Nat):bitSum f (k + 1)=2 ^ k * (if f k then 1 else 0) + bitSum f k:=rfl
theorem zc2 (f:Nat->Bool):∀ k,bitSum f k < 2 ^ k
 | 0=>Nat.zero_lt_one
 | k + 1=>by
  have:=zc2 f k
  rw [zbZ]
  rw [Nat.pow_succ]
  cases f k
  ·simp; omega
  ·simp; omega
theorem zbY (f:Nat->Bool) (i:Nat):∀ k,(bitSum f k).testBit i=(decide (i < k) && f i)
 | 0=>by simp [bitSum]
 | k + 1=>by
  rw [zbZ,Nat.testBit_two_pow_mul_add _ (zc2 f k),zbY f i k]
  by_cases h:i < k
  ·rw [if_pos h,decide_eq_true h,decide_eq_true (show i < k + 1 by omega)]
  ·rw [if_neg h]
   by_cases e:i=k
   ·subst e
    rw [Nat.sub_self,decide_eq_true (Nat.lt_succ_self i)]
    cases f i <;> rfl
   ·rw [decide_eq_false (show ¬ i < k + 1 by omega),Bool.false_and]
    cases f k
    ·exact Nat.zero_testBit _
    ·show (1:Nat).testBit (i - k)=false
     rw [Bool.eq_false_iff]
     exact fun z=>absurd (Nat.testBit_one_eq_true_iff_self_eq_zero.mp z) (by omega)
theorem zbL (f:Nat->Bool):∀ k,worth (((List.range k).filter f).map fun i=>((i:Nat):Int))=((bitSum f k:Nat):Int)
 | 0=>rfl
 | k + 1=>by
  rw [List.range_succ,List.filter_append,List.map_append,zct,zbL f k,zbZ]
  cases h:f k
  ·simp [h,worth]
  ·simp only [h,List.filter_cons,List.filter_nil,if_true,List.map_cons,List.map_nil,zaN,zdN]
   unfold pw
   rw [Int.toNat_natCast]
   push_cast
   omega
theorem zc1 {f:Nat->Bool} {k:Nat} (i:Nat):(worth (((List.range k).filter f).map fun i=>((i:Nat):Int))).toNat.testBit i=(decide (i < k) && f i):=by
 rw [zbL,Int.toNat_natCast,zbY]
theorem ahead_worth (f:Nat->Bool):aheadOf (worth (((List.range 7).filter f).map fun i=>((i:Nat):Int)))=((List.range 7).filter f).map fun i=>((i:Nat):Int):=by
 unfold aheadOf
 congr 1
 refine List.filter_congr fun i hi => ?_
 rw [zc1,decide_eq_true (List.mem_range.mp hi),Bool.true_and]
theorem zbp {n:Int} (h0:0<=n) (h1:n < 128):worth (aheadOf n)=n:=by
 unfold aheadOf
 rw [zbL]
 have:bitSum (fun d=>n.toNat.testBit d) 7=n.toNat:=by
  refine Nat.eq_of_testBit_eq fun i => ?_
  rw [zbY]
  by_cases h:i < 7
  ·rw [decide_eq_true h,Bool.true_and]
  ·rw [decide_eq_false h,Bool.false_and]
   symm
   refine Nat.testBit_lt_two_pow (Nat.lt_of_lt_of_le (show n.toNat < 2 ^ 7 by omega) (Nat.pow_le_pow_right (by decide) (by omega)))
 rw [this]
 omega
theorem mem_ahead {n t:Int}:t∈aheadOf n ↔ 0<=t/\t<=6/\n.toNat.testBit t.toNat=true:=by
 unfold aheadOf
 simp only [List.mem_map,List.mem_filter,List.mem_range]
 constructor
 ·rintro ⟨i,⟨hi,hb⟩,rfl⟩
  exact ⟨by omega,by omega,by simpa using hb⟩
 ·rintro ⟨h0,h6,hb⟩
  exact ⟨t.toNat,⟨by omega,hb⟩,by omega⟩
theorem meets_false {ah ts:List Int}:meets ah ts=false ↔ ∀ t∈ts,t ∉ ah:=by
 unfold meets
 simp [List.any_eq_false]
theorem zej {n:Int} {ts:List Int} (h0:0<=n) (h1:n < 128) (g:GT ts):Builtin.bitAnd n (worth ts)=0 ↔ meets (aheadOf n) ts=false:=by
 have hb:Builtin.bitAnd n (worth ts)=((n.toNat &&& (worth ts).toNat:Nat):Int):=by
  unfold Builtin.bitAnd
  rw [decide_eq_true h0,decide_eq_true (zeA ts)]
 rw [hb,meets_false]
 obtain ⟨f,rfl,_⟩:=g
 constructor
 ·intro h t ht ha
  obtain ⟨t0,t6,tb⟩:=mem_ahead.mp ha
  obtain ⟨i,hi,rfl⟩:=List.mem_map.mp ht
  obtain ⟨hr,hf⟩:=List.mem_filter.mp hi
  have z:(n.toNat &&& (worth (((List.range 8).filter f).map fun i=>((i:Nat):Int))).toNat)=0:=by omega
  have z:=congrArg (fun m=>m.testBit i) z
  simp only [Nat.testBit_and,zc1,Nat.zero_testBit] at z
  rw [Int.toNat_natCast] at tb
  rw [tb,hf,decide_eq_true (List.mem_range.mp hr)] at z
  exact absurd z (by decide)
 ·intro h
  have z:(n.toNat &&& (worth (((List.range 8).filter f).map fun i=>((i:Nat):Int))).toNat)=0:=by
   refine Nat.eq_of_testBit_eq fun i => ?_
   rw [Nat.testBit_and,zc1,Nat.zero_testBit]
   cases e:n.toNat.testBit i with
   | false=>rfl
   | true =>
    have hi:i < 7:=by
     apply Classical.byContradiction
     intro hn
     have:=Nat.testBit_lt_two_pow (Nat.lt_of_lt_of_le (show n.toNat < 2 ^ 7 by omega) (Nat.pow_le_pow_right (by decide) (show 7<=i by omega)))
     rw [this] at e
     exact absurd e (by decide)
    cases ef:f i with
    | false=>simp
    | true =>
     exfalso
     refine h (i:Int) (List.mem_map.mpr ⟨i,List.mem_filter.mpr ⟨List.mem_range.mpr (by omega),ef⟩,rfl⟩) (mem_ahead.mpr ⟨by omega,by omega,?_⟩)
     rwa [Int.toNat_natCast]
  omega
theorem worth_half (l:List Int) (h:∀ t∈l,0<=t):worth l=2 * worth ((l.filter fun d=>decide (0 < d)).map fun d=>d - 1) + ((l.count 0:Nat):Int):=by
 induction l with
 | nil=>rfl
 | cons t l ih =>
  have ih:=ih fun x hx=>h x (List.mem_cons_of_mem _ hx)
  have t0:=h t List.mem_cons_self
  rw [zaN,List.filter_cons,List.count_cons]
  by_cases e:t=0
  ·subst e
   rw [ih]
   simp [pw]
   omega
  ·have hp:0 < t:=by omega
   have:pw t=2 * pw (t - 1):=by
    unfold pw
    rw [show t.toNat=(t - 1).toNat + 1 by omega,Int.pow_succ]
    omega
   rw [if_pos (decide_eq_true hp),List.map_cons,zaN,this,ih]
   rw [if_neg (by simpa using e)]
   omega
theorem zfc {ah ts:List Int}:∀ d∈afterOf ah ts,0<=d/\d<=6:=by
 intro d hd
 obtain ⟨x,hx,rfl⟩:=List.mem_map.mp hd
 obtain ⟨hc,hp⟩:=List.mem_filter.mp hx
 have:=(mem_canon.mp hc).2
 have:=of_decide_eq_true hp
 omega
theorem zcH (ah ts:List Int):(afterOf ah ts).Pairwise (· < ·):=by
 unfold afterOf
 rw [List.pairwise_map]
 exact ((zdK (ah ++ ts)).sublist List.filter_sublist).imp fun h=>by omega
theorem zbv (n:Int):(aheadOf n).Nodup:=by
 refine zaW ?_
 unfold aheadOf
 rw [List.pairwise_map]
 refine List.Pairwise.sublist List.filter_sublist (List.Pairwise.imp ?_ (List.pairwise_lt_range (n:=7)))
 intro a b h
 omega
theorem zc4 {ah ts:List Int} (ha:ah.Nodup) (hr:∀ t∈ah,0<=t/\t<=6) (ht:ts.Nodup) (hr':∀ t∈ts,0<=t/\t<=7) (hm:meets ah ts=false):worth (afterOf ah ts)=(worth ah + worth ts) / 2:=by
 have hn:(ah ++ ts).Nodup:=List.nodup_append.mpr ⟨ha,ht,fun a h1 b h2 e=>meets_false.mp hm b h2 (e ▸ h1)⟩
 have hp:(canon (ah ++ ts)).Perm (ah ++ ts):=by
  rw [List.perm_ext_iff_of_nodup (zbX _) hn]
  intro t
  rw [mem_canon]
  refine ⟨fun h=>h.1,fun h=>⟨h,?_⟩⟩
  rcases List.mem_append.mp h with z | z
  ·have:=hr t z; omega
  ·exact hr' t z
 have hw:=worth_half (canon (ah ++ ts)) fun t h=>(mem_canon.mp h).2.1
 rw [worth_perm hp,zct] at hw
 have hc:=List.nodup_iff_count.mp (zbX (ah ++ ts)) 0
 unfold afterOf
 omega
theorem zcG {n:Int}:∀ t∈aheadOf n,0<=t/\t<=6:=fun t h=>⟨(mem_ahead.mp h).1,(mem_ahead.mp h).2.1⟩
theorem zc7 {n:Int} (h0:0<=n):(0:Int)∈aheadOf n ↔ n % 2=1:=by
 rw [mem_ahead]
 have:n.toNat.testBit 0=decide (n.toNat % 2=1):=Nat.testBit_zero _
 rw [show (0:Int).toNat=0 from rfl,this,decide_eq_true_eq]
 omega
noncomputable def stepsOf (cs:Combs) (n:Int):List (Str×Int):=if n % 2=1 then [("",n / 2)] else (cs.filter fun c=>decide (Builtin.bitAnd n (worth c.2)=0)).map fun c=>(c.1,(n + worth c.2) / 2)
noncomputable def goesOf (cs:Combs) (ah:List Int):List (Str×List Int):=if (0:Int)∈ah then [("",afterOf ah [])] else (cs.filter fun c => !meets ah c.2).map fun c=>(c.1,afterOf ah c.2)
theorem zdb {cs:Combs} {n:Int} (h0:0<=n) (h1:n < 128) (g:∀ c∈cs,GT c.2):(goesOf cs (aheadOf n)).map (fun p=>(p.1,worth p.2))=stepsOf cs n:=by
 unfold goesOf stepsOf
 by_cases e:n % 2=1
 ·rw [if_pos e,if_pos ((zc7 h0).mpr e),List.map_cons,List.map_nil,zc4 (zbv n) zcG List.nodup_nil (by simp) (by rfl),zbp h0 h1,zdN,Int.add_zero]
 ·rw [if_neg e,if_neg fun z=>e ((zc7 h0).mp z),List.map_map]
  have hf:(cs.filter fun c => !meets (aheadOf n) c.2)=cs.filter fun c=>decide (Builtin.bitAnd n (worth c.2)=0):=by
   refine List.filter_congr fun c hc => ?_
   rw [Bool.eq_iff_iff,decide_eq_true_eq,zej h0 h1 (g c hc),Bool.not_eq_true']
  rw [hf]
  refine List.map_congr_left fun c hc => ?_
  obtain ⟨hc,hz⟩:=List.mem_filter.mp hc
  have gc:=g c hc
  show (c.1,worth (afterOf (aheadOf n) c.2))=_
  rw [zc4 (zbv n) zcG (zaW (zfe gc)) (zff gc) ((zej h0 h1 gc).mp (of_decide_eq_true hz)),zbp h0 h1]
theorem steps_lt {cs:Combs} {n:Int} (h0:0<=n) (h1:n < 128) (g:∀ c∈cs,GT c.2):∀ p∈stepsOf cs n,0<=p.2/\p.2 < 128:=by
 rw [<- zdb h0 h1 g]
 intro p hp
 obtain ⟨q,hq,rfl⟩:=List.mem_map.mp hp
 have:∃ a b,q.2=afterOf a b:=by
  unfold goesOf at hq
  split at hq
  ·rw [List.mem_singleton.mp hq]; exact ⟨_,_,rfl⟩
  ·obtain ⟨c,_,rfl⟩:=List.mem_map.mp hq; exact ⟨_,_,rfl⟩
 obtain ⟨a,b,e⟩:=this
 show 0<=worth q.2/\worth q.2 < 128
 rw [e]
 refine ⟨zeA _,?_⟩
 have hs:afterOf a b=((List.range 7).filter fun i=>decide (((i:Nat):Int)∈afterOf a b)).map fun i=>((i:Nat):Int):=by
  refine zbr ?_ ((zcH a b).imp fun h=>by omega) ?_
  ·rw [List.perm_ext_iff_of_nodup (zaW (zcH a b))]
   ·intro t
    simp only [List.mem_map,List.mem_filter,List.mem_range,decide_eq_true_eq]
    constructor
    ·intro h
     have:=zfc t h
     exact ⟨t.toNat,⟨by omega,by rwa [show ((t.toNat:Nat):Int)=t by omega]⟩,by omega⟩
    ·rintro ⟨i,⟨_,h⟩,rfl⟩
     exact h
   ·refine zaW ?_
    rw [List.pairwise_map]
    refine List.Pairwise.sublist List.filter_sublist (List.Pairwise.imp ?_ (List.pairwise_lt_range (n:=7)))
    intro a b h
    omega
  ·rw [List.pairwise_map]
   refine List.Pairwise.sublist List.filter_sublist (List.Pairwise.imp ?_ (List.pairwise_lt_range (n:=7)))
   intro a b h
   omega
 rw [hs,zbL]
 have:=zc2 (fun i=>decide (((i:Nat):Int)∈afterOf a b)) 7
 omega
noncomputable def StepsR (H:Hp):List V->List (Str×Int)->Prop
 | [],[]=>True
 | v :: vs,s :: ss=>(∃ q,v = .ref q/\H q=some (.tup [.str s.1,.int s.2]))/\StepsR H vs ss
 | _,_=>False
theorem StepsR.mono {H H':Hp} (m:∀ q xs,H q=some (.tup xs)->H' q=some (.tup xs)):∀ {vs:List V} {ss:List (Str×Int)},StepsR H vs ss->StepsR H' vs ss
 | [],[],_=>trivial
 | _ :: _,_ :: _,⟨⟨q,e,h⟩,r⟩=>⟨⟨q,e,m q _ h⟩,r.mono m⟩
 | [],_ :: _,x=>x.elim
 | _ :: _,[],x=>x.elim
theorem StepsR.length {H:Hp}:∀ {vs:List V} {ss:List (Str×Int)},StepsR H vs ss->vs.length=ss.length
 | [],[],_=>rfl
 | _ :: _,_ :: _,⟨_,r⟩=>by rw [List.length_cons,List.length_cons,r.length]
 | [],_ :: _,x=>x.elim
 | _ :: _,[],x=>x.elim
theorem StepsR.snoc {H:Hp} {q:Addr} {s:Str×Int} (hq:H q=some (.tup [.str s.1,.int s.2])):∀ {vs:List V} {ss:List (Str×Int)},StepsR H vs ss->StepsR H (vs ++ [.ref q]) (ss ++ [s])
 | [],[],_=>⟨⟨q,rfl,hq⟩,trivial⟩
 | _ :: _,_ :: _,⟨a,r⟩=>⟨a,r.snoc hq⟩
 | [],_ :: _,x=>x.elim
 | _ :: _,[],x=>x.elim
theorem StepsR.get {H:Hp} {i:Nat} {s:Str×Int}:∀ {vs:List V} {ss:List (Str×Int)},StepsR H vs ss->ss[i]?=some s->∃ q,vs[i]?=some (.ref q)/\H q=some (.tup [.str s.1,.int s.2]):=by
 induction i with
 | zero =>
  intro vs ss r e
  match vs,ss,r with
  | [],[],_=>simp at e
  | v :: _,x :: _,⟨⟨q,ev,h⟩,_⟩ =>
   simp at e
   subst e
   exact ⟨q,by rw [ev]; rfl,h⟩
 | succ i ih =>
  intro vs ss r e
  match vs,ss,r with
  | [],[],_=>simp at e
  | v :: vs,x :: ss,⟨_,r⟩ =>
   obtain ⟨q,e1,e2⟩:=ih r (by simpa using e)
   exact ⟨q,by simpa using e1,e2⟩
noncomputable def byNames (cs:Combs) (nm:List Str):Combs:=nm.map fun x=>(x,(cGet cs x).getD [])
theorem byNames_snoc {cs:Combs} {nm:List Str} {x:Str} {ts:List Int} (h:cGet cs x=some ts):byNames cs (nm ++ [x])=byNames cs nm ++ [(x,ts)]:=by
 unfold byNames
 rw [List.map_append,List.map_cons,List.map_nil,h]
 rfl
theorem zda {cs:Combs} {c:Str×List Int} {n:Int} (h:¬ n % 2=1):stepsOf (cs ++ [c]) n=stepsOf cs n ++ if Builtin.bitAnd n (worth c.2)=0 then [(c.1,(n + worth c.2) / 2)] else []:=by
 unfold stepsOf
 rw [if_neg h,if_neg h,List.filter_append,List.map_append]
 congr 1
 by_cases e:Builtin.bitAnd n (worth c.2)=0
 ·rw [if_pos e,List.filter_cons,if_pos (decide_eq_true e)]
  rfl
 ·rw [if_neg e,List.filter_cons,if_neg (by simpa using e)]
  rfl
theorem steps_nil {n:Int} (h:¬ n % 2=1):stepsOf [] n = []:=by
 unfold stepsOf
 rw [if_neg h]
 rfl
theorem zdS {cs:Combs} {n:Int} (h:n % 2=1):stepsOf cs n = [((Str.ofString "" : Str),n / 2)]:=by
 unfold stepsOf
 exact if_pos h
theorem steps_len {cs:Combs} {n:Int} (h:¬ n % 2=1):(stepsOf cs n).length<=cs.length:=by
 unfold stepsOf
 rw [if_neg h,List.length_map]
 exact List.length_filter_le _ _
theorem zes (t:Int) (ts:List Int):inV (V.int t) (ts.map V.int)=decide (t∈ts):=by
 unfold inV
 rw [List.any_map,Bool.eq_iff_iff,List.any_eq_true,decide_eq_true_eq]
 constructor
 ·rintro ⟨x,hx,e⟩
  have:x=t:=by
   have e':(x == t)=true:=e
   exact eq_of_beq e'
  rw [<- this]; exact hx
 ·intro h
  exact ⟨t,h,beq_self_eq_true t⟩
theorem after_canon {ah ts ns:List Int} (ha:ah.Nodup) (hr:∀ t∈ah,0<=t/\t<=6) (ht:ts.Nodup) (hr':∀ t∈ts,0<=t/\t<=7) (hm:meets ah ts=false) (hp:ns.Perm (ah ++ ts)) (hs:ns.Pairwise (· <= ·)):ns=canon (ah ++ ts):=by
 refine zdJ hp hs (List.nodup_append.mpr ⟨ha,ht,fun a h1 b h2 e=>meets_false.mp hm b h2 (e ▸ h1)⟩) fun t h => ?_
 rcases List.mem_append.mp h with z | z
 ·have:=hr t z; omega
 ·exact hr' t z
noncomputable def GoesR (H:Hp):List V->List (Str×List Int)->Prop
 | [],[]=>True
 | v :: vs,s :: ss=>(∃ q t,v = .ref q/\H q=some (.tup [.str s.1,.ref t])/\H t=some (.tup (s.2.map V.int)))/\GoesR H vs ss
 | _,_=>False
theorem GoesR.mono {H H':Hp} (m:∀ q xs,H q=some (.tup xs)->H' q=some (.tup xs)):∀ {vs:List V} {ss:List (Str×List Int)},GoesR H vs ss->GoesR H' vs ss
 | [],[],_=>trivial
 | _ :: _,_ :: _,⟨⟨q,t,e,h,h2⟩,r⟩=>⟨⟨q,t,e,m q _ h,m t _ h2⟩,r.mono m⟩
 | [],_ :: _,x=>x.elim
 | _ :: _,[],x=>x.elim
theorem GoesR.length {H:Hp}:∀ {vs:List V} {ss:List (Str×List Int)},GoesR H vs ss->vs.length=ss.length
 | [],[],_=>rfl
 | _ :: _,_ :: _,⟨_,r⟩=>by rw [List.length_cons,List.length_cons,r.length]
 | [],_ :: _,x=>x.elim
 | _ :: _,[],x=>x.elim
theorem GoesR.snoc {H:Hp} {q t:Addr} {s:Str×List Int} (hq:H q=some (.tup [.str s.1,.ref t])) (ht:H t=some (.tup (s.2.map V.int))):∀ {vs:List V} {ss:List (Str×List Int)},GoesR H vs ss->GoesR H (vs ++ [.ref q]) (ss ++ [s])
 | [],[],_=>⟨⟨q,t,rfl,hq,ht⟩,trivial⟩
 | _ :: _,_ :: _,⟨a,r⟩=>⟨a,r.snoc hq ht⟩
 | [],_ :: _,x=>x.elim
 | _ :: _,[],x=>x.elim
theorem GoesR.get {H:Hp} {i:Nat} {s:Str×List Int}:∀ {vs:List V} {ss:List (Str×List Int)},GoesR H vs ss->ss[i]?=some s->∃ q t,vs[i]?=some (.ref q)/\H q=some (.tup [.str s.1,.ref t])/\H t=some (.tup (s.2.map V.int)):=by
 induction i with
 | zero =>
  intro vs ss r e
  match vs,ss,r with
  | [],[],_=>simp at e
  | v :: _,x :: _,⟨⟨q,t,ev,h,h2⟩,_⟩ =>
   simp at e
   subst e
   exact ⟨q,t,by rw [ev]; rfl,h,h2⟩
 | succ i ih =>
  intro vs ss r e
  match vs,ss,r with
  | [],[],_=>simp at e
  | v :: vs,x :: ss,⟨_,r⟩ =>
   obtain ⟨q,t,e1,e2⟩:=ih r (by simpa using e)
   exact ⟨q,t,by simpa using e1,e2⟩
theorem goes_in {cs:Combs} {ah:List Int} (h:(0:Int)∈ah):goesOf cs ah = [((Str.ofString "" : Str),afterOf ah [])]:=by
 unfold goesOf
 exact if_pos h
theorem goes_nil {ah:List Int} (h:(0:Int) ∉ ah):goesOf [] ah = []:=by
 unfold goesOf
 rw [if_neg h]
 rfl
theorem zd6 {cs:Combs} {c:Str×List Int} {ah:List Int} (h:(0:Int) ∉ ah):goesOf (cs ++ [c]) ah=goesOf cs ah ++ if meets ah c.2=true then [] else [(c.1,afterOf ah c.2)]:=by
 unfold goesOf
 rw [if_neg h,if_neg h,List.filter_append,List.map_append]
 congr 1
 by_cases e:meets ah c.2=true
 ·rw [if_pos e,List.filter_cons,if_neg (by rw [e]; decide)]
  rfl
 ·rw [if_neg e,List.filter_cons,if_pos (by simpa using e)]
  rfl
end L2
namespace L2
open PySem PySem.Spec PyProof.Rows PySem.W
structure LtOk (n:Nat) (lt:Nat->Nat->Bool):Prop where
 tr:∀ {a b c},lt a b=true->lt b c=true->lt a c=true
 tot:∀ {a b},a < n->b < n->a≠b->lt a b=false->lt b a=true
 irr:∀ a,lt a a=false
noncomputable abbrev gd (p:Array Nat) (i:Nat):Nat:=p.getD i 0
section
variable {n:Nat} {lt:Nat->Nat->Bool} {cmp:Nat->Nat->(Bool->Shared->Prop)->Shared->Prop} {s:Shared}
variable (L:LtOk n lt) (hc:∀ i j C,i < n->j < n->i≠j->C (lt i j) s->cmp i j C s)
include L hc
omit hc L in
omit hc L in
omit hc L in
end
end L2
namespace L2
open PySem PySem.Spec PyProof.Rows PySem.W
open AutoSeq1 (wpAny_loadPart')
open MeetsSeq MeetsSeq2 MeetsSeq3
section
variable {prog:Program} {w:World} {A:Around} {E:Value->Shared->Prop} {s:Shared}
end
noncomputable def kd (ks:List (Str×List Int)) (i:Nat):Str×List Int:=ks.getD i (Str.ofString "",[])
section
variable {X:Cx}
end
noncomputable def intsChk:List Value->List Int->Bool
 | [],[]=>true
 | .int i _ :: r,k :: s=>decide (i=k) && intsChk r s
 | _,_=>false
theorem ze5:∀ {us:List Value} {ns:List Int},intsChk us ns=true->Vals (ns.map V.int) us
 | [],[],_ => .nil
 | .int i t :: r,k :: s,h=>by
  simp only [intsChk,Bool.and_eq_true,decide_eq_true_eq] at h
  obtain ⟨rfl,h⟩:=h
  exact .cons ⟨t,rfl⟩ (ze5 h)
 | [],_ :: _,h=>by cases h
noncomputable def tupChk (K:W.Frag) (a:Addr) (ns:List Int):Bool:=match K.lookup a with
 | some o=>(o.cls == .type "tuple") && match o.data with
  | .seq its _=>intsChk its.toList ns && decide (its.size<=1000)
  | _=>false
 | none=>false
theorem tup_chk {K:W.Frag} {a:Addr} {ns:List Int} (h:tupChk K a ns=true) (H:Hp):SqT K H a (ns.map V.int):=by
 unfold tupChk at h
 split at h
 ·rename_i o e
  rw [Bool.and_eq_true] at h
  obtain ⟨hc,h⟩:=h
  split at h
  ·rename_i its n ed
   rw [Bool.and_eq_true] at h
   exact .inr ⟨o,its,n,e,eq_of_beq hc,ed,big (of_decide_eq_true h.2),ze5 h.1⟩
  ·cases h
 ·cases h
end L2
namespace L2
open PySem PySem.Spec PyProof.Rows
theorem zgq {J:It} {Ok:Hp->Prop} {L:List V} {tf:TT} {te:TE} {D:Addr} {σ0 capv:St} {H1:Hp} {Q:VK} (hσ : σ0=none :: capv) (G:Gives J Ok L) (hL:L.length<=sizeLine) (hD:H1 D=none) (hOk:∀ H,Same H1 H->Ok H) (p:Nat->Bool) (Rel:Hp->Nat->V->Prop)
  (hm:∀ H H' i v,Same H H'->Rel H i v->Rel H' i v) (hw:∀ H i v l l',v ≠ .ref D->H D=some (.lst l)->Rel H i v->Rel (upd H D (.lst l')) i v)
  (ht:∀ (i:Nat) x,L[i]?=some x->∀ H R,Same H1 H->(∀ H',Same H H'->R (p i) H')->tf (some x :: capv) H R)
  (he:∀ (i:Nat) x,L[i]?=some x->p i=true->∀ H R,Same H1 H->H D≠none->(∀ H' v,Same H H'->v ≠ .ref D->Rel H' i v->R v H')->te (some x :: capv) H R)
  (hd:∀ H ys,Same H1 H->H D=some (.lst ys)->Paired (fun i y=>y ≠ .ref D/\Rel H i y) ((List.range L.length).filter p) ys->Q (.ref D) H) :
  CompW J D σ0 H1 (gName 0) tf te Q:=by
 subst hσ
 refine zf1 G (fun i xs σ H=>(∃ o,σ = o :: capv)/\Same H1 H/\H D=some (.lst xs)/\Paired (fun i y=>y ≠ .ref D/\Rel H i y) ((List.range i).filter p) xs) ⟨⟨none,rfl⟩,Same.new hD,zac,.nil⟩ (fun i xs σ H _ h=>hOk H h.2.1) ?_ ?_
 ·rintro i x xs σ H hi hx ⟨⟨o,rfl⟩,s,e,hr⟩
  show tf (some x :: capv) H _
  refine ht i x hx H _ s fun H' s' => ?_
  have hxl:xs.length<=i:=by
   rw [<- Paired.length hr]
   exact Nat.le_trans (List.length_filter_le _ _) (by rw [List.length_range]; omega)
  have efil:(List.range (i + 1)).filter p=(List.range i).filter p ++ if p i=true then [i] else []:=by
   rw [List.range_succ,List.filter_append]
   congr 1
   rw [List.filter_cons,List.filter_nil]
  cases hp:p i with
  | true =>
   rw [if_pos rfl]
   refine he i x hx hp H' _ (s.trans s') (by rw [s' _ _ e]; exact nofun) fun H2 v s2 hv rv => ?_
   have e2:=s2 _ _ (s' _ _ e)
   refine CNext.of hi hL e2 hxl ⟨⟨some x,rfl⟩,((s.trans s').trans s2).put hD,zac,?_⟩
   rw [efil,if_pos hp]
   exact Paired.snoc (Paired.mapP hr fun j y z=>⟨z.1,hw _ _ _ _ _ z.1 e2 (hm _ _ _ _ (s'.trans s2) z.2)⟩) ⟨hv,hw _ _ _ _ _ hv e2 rv⟩
  | false =>
   rw [if_neg Bool.false_ne_true]
   refine CSkip.of (xs:=xs) hi ⟨⟨some x,rfl⟩,s.trans s',s' _ _ e,?_⟩
   rw [efil,if_neg (by rw [hp]; exact Bool.false_ne_true),List.append_nil]
   exact Paired.mapP hr fun j y z=>⟨z.1,hm _ _ _ _ s' z.2⟩
 ·rintro xs σ H ⟨_,s,e,hr⟩
  exact hd H xs s e hr
theorem Paired.at {α β : Type} {R : α -> β -> Prop}:∀ {l:List α} {m:List β} {i:Nat} {x : α},Paired R l m->l[i]?=some x->∃ y,m[i]?=some y/\R x y
 | _,_,i,x,.nil,h=>by simp at h
 | _,_,0,x,.cons h r,e=>by
  simp at e
  subst e
  exact ⟨_,rfl,h⟩
 | _,_,i + 1,x,.cons h r,e=>by
  obtain ⟨y,e1,e2⟩:=Paired.at (i:=i) r (by simpa using e)
  exact ⟨y,by simpa using e1,e2⟩
theorem ze8 {J:It} {Ok:Hp->Prop} {L:List V} {tf:TT} {te:TE} {D:Addr} {σ0 capv:St} {H1:Hp} {Q:VK} (hσ : σ0=none :: capv) (G:Gives J Ok L) (hL:L.length<=sizeLine) (hD:H1 D=none) (hOk:∀ H,Same H1 H->Ok H) (p:Nat->Bool) (F:Nat->V) (hF:∀ i,i < L.length->p i=true->F i ≠ .ref D)
  (ht:∀ (i:Nat) x,L[i]?=some x->∀ H R,Same H1 H->(∀ H',Same H H'->R (p i) H')->tf (some x :: capv) H R)
  (he:∀ (i:Nat) x,L[i]?=some x->p i=true->∀ H R,Same H1 H->(∀ H',Same H H'->R (F i) H')->te (some x :: capv) H R)
  (hd:∀ H,Same H1 H->H D=some (.lst (((List.range L.length).filter p).map F))->Q (.ref D) H) :
  CompW J D σ0 H1 (gName 0) tf te Q:=by
 refine zgq hσ G hL hD hOk p (fun _ i v=>v=F i) (fun _ _ _ _ _ h=>h) (fun _ _ _ _ _ _ _ h=>h) ht (fun i x hx hp H R s _ h=>he i x hx hp H R s fun H' s'=>h H' _ s' (hF i (List.getElem?_eq_some_iff.mp hx).1 hp) rfl) fun H ys s e pr=>hd H s ?_
 rw [e]
 have:∀ {l:List Nat} {m:List V},Paired (fun i y=>y ≠ .ref D/\y=F i) l m->m=l.map F:=by
  intro l m q
  induction q with
  | nil=>rfl
  | cons h _ ih=>rw [List.map_cons,<- ih,h.2]
 rw [this pr]
noncomputable def nmSort (cs:Combs):List Str:=(cs.map (·.1)).mergeSort fun a b=>decide (a.cps.toList<=b.cps.toList)
theorem zfF (cs:Combs):(nmSort cs).Perm (cs.map (·.1)):=List.mergeSort_perm _ _
theorem nm_sorted (cs:Combs):sortedS (nmSort cs)=true:=by
 refine sortedS_of_pairwise _ ?_
 have h:=List.pairwise_mergeSort (le:=fun a b:Str=>decide (a.cps.toList<=b.cps.toList)) (fun a b c h1 h2=>decide_eq_true (List.le_trans (of_decide_eq_true h1) (of_decide_eq_true h2))) (fun a b=>by
  rcases List.le_total a.cps.toList b.cps.toList with h | h
  ·rw [decide_eq_true h]; rfl
  ·rw [decide_eq_true h,Bool.or_true]) (cs.map (·.1))
 exact h.imp fun {a b} h=>sle_iff.mp (show a.cps.toList<=b.cps.toList from of_decide_eq_true h)
noncomputable def srt (cs:Combs):Combs:=byNames cs (nmSort cs)
theorem zep {cs:Combs} (nd:(cs.map (·.1)).Nodup) {c:Str×List Int} (h:c∈cs):cGet cs c.1=some c.2:=by
 induction cs with
 | nil=>cases h
 | cons d cs ih =>
  rw [zcE]
  rw [List.map_cons,List.nodup_cons] at nd
  rcases List.mem_cons.mp h with rfl | h
  ·exact if_pos rfl
  ·rw [if_neg (fun z:d.1=c.1=>nd.1 (z ▸ List.mem_map.mpr ⟨c,h,rfl⟩))]
   exact ih nd.2 h
theorem by_same {cs ks:Combs} (nd:(cs.map (·.1)).Nodup) (p:ks.Perm cs):byNames cs (ks.map (·.1))=ks:=by
 unfold byNames
 rw [List.map_map]
 conv=>rhs; rw [<- List.map_id ks]
 refine List.map_congr_left fun k hk => ?_
 show (k.1,(cGet cs k.1).getD [])=k
 rw [zep nd (p.mem_iff.mp hk)]
 rfl
theorem zds {cs:Combs} (nd:(cs.map (·.1)).Nodup):(srt cs).Perm cs:=by
 have h:(byNames cs (nmSort cs)).Perm (byNames cs (cs.map (·.1))):=(zfF cs).map _
 rw [by_same nd (List.Perm.refl _)] at h
 exact h
noncomputable def stp (C:Combs) (s:Nat):List (Str×Int):=stepsOf C (s:Int)
noncomputable def nxtRow (C:Combs) (r:List Bool):List Bool:=(List.range 128).map fun s=>(stp C s).any fun p=>r.getD p.2.toNat false
noncomputable def rowAt (C:Combs):Nat->List Bool
 | 0=>List.replicate 128 true
 | k + 1=>nxtRow C (rowAt C k)
theorem zaY (C:Combs):∀ k,(rowAt C k).length=128
 | 0=>by simp [rowAt]
 | k + 1=>by simp [rowAt,nxtRow]
noncomputable abbrev tr (r:List Bool) (s:Nat):Bool:=r.getD s false
theorem zbS {C:Combs} {r:List Bool} {s:Nat} (h:s < 128):tr (nxtRow C r) s=(stp C s).any fun p=>tr r p.2.toNat:=by
 unfold tr nxtRow
 rw [List.getD_eq_getElem?_getD,List.getElem?_map,List.getElem?_range h]
 rfl
theorem zel {C:Combs} {s:Nat} (h:s < 128):tr (rowAt C 0) s=true:=by
 unfold tr rowAt
 rw [List.getD_eq_getElem?_getD,List.getElem?_replicate,if_pos h]
 rfl
noncomputable def GC (C:Combs):Prop:=∀ c∈C,GT c.2
theorem zcu {C:Combs} (g:GC C) {s:Nat} (h:s < 128) {p:Str×Int} (hp:p∈stp C s):0<=p.2/\p.2.toNat < 128:=by
 have:=steps_lt (n:=(s:Int)) (by omega) (by omega) g p hp
 omega
theorem zcm {C:Combs} (g:GC C):∀ k s,s < 128->tr (rowAt C (k + 1)) s=true->tr (rowAt C k) s=true
 | 0,s,h,_=>zel h
 | k + 1,s,h,e=>by
  rw [show rowAt C (k + 1 + 1)=nxtRow C (rowAt C (k + 1)) from rfl,zbS h] at e
  rw [show rowAt C (k + 1)=nxtRow C (rowAt C k) from rfl,zbS h]
  obtain ⟨p,hp,e⟩:=List.any_eq_true.mp e
  exact List.any_eq_true.mpr ⟨p,hp,zcm g k _ (zcu g h hp).2 e⟩
theorem count_less {a b:List Bool} (hl:a.length=b.length) (hm:∀ s,tr a s=true->tr b s=true) (hn:a≠b):a.count true < b.count true:=by
 induction a generalizing b with
 | nil =>
  cases b with
  | nil=>exact absurd rfl hn
  | cons _ _=>simp at hl
 | cons x a ih =>
  cases b with
  | nil=>simp at hl
  | cons y b =>
   have hm':∀ s,tr a s=true->tr b s=true:=fun s h=>hm (s + 1) h
   have h0:x=true->y=true:=fun h=>hm 0 h
   have hl':a.length=b.length:=by simpa using hl
   have le:a.count true<=b.count true:=by
    by_cases e:a=b
    ·rw [e]; exact Nat.le_refl _
    ·exact Nat.le_of_lt (ih hl' hm' e)
   rw [List.count_cons,List.count_cons]
   by_cases e:a=b
   ·subst e
    cases x with
    | true=>rw [h0 rfl] at hn; exact absurd rfl hn
    | false =>
     cases y with
     | false=>exact absurd rfl hn
     | true=>simp
   ·have:=ih hl' hm' e
    cases x with
    | true=>rw [h0 rfl]; simp; omega
    | false=>simp; omega
theorem tr_out {C:Combs} {k s:Nat} (h:¬ s < 128):tr (rowAt C k) s=false:=by
 unfold tr
 rw [List.getD_eq_getElem?_getD,List.getElem?_eq_none (by rw [zaY]; omega)]
 rfl
theorem row_less {C:Combs} (g:GC C) {k:Nat} (h:rowAt C (k + 1)≠rowAt C k):(rowAt C (k + 1)).count true < (rowAt C k).count true:=by
 refine count_less (by rw [zaY,zaY]) (fun s e => ?_) h
 by_cases hs:s < 128
 ·exact zcm g k s hs e
 ·rw [tr_out hs] at e; cases e
theorem zcN (lo:Int) (n:Nat):((List.range n).map fun i=>V.int (lo + ((i:Nat):Int))).length=n:=by rw [List.length_map,List.length_range]
theorem at0 {x y:V}:atI [x,y] 0=some x:=show atI [x,y] ((0:Nat):Int)=_ from zaH rfl
theorem at1 {x y:V}:atI [x,y] 1=some y:=show atI [x,y] ((1:Nat):Int)=_ from zaH rfl
theorem zdr {C:Combs} (h8:C.length<=8) (s:Nat):(stp C s).length<=8:=by
 unfold stp
 by_cases e:(s:Int) % 2=1
 ·rw [zdS e]; exact Nat.le_of_ble_eq_true rfl
 ·exact Nat.le_trans (steps_len e) h8
theorem zdp {α : Type} {ws:List α} {m:Nat} {x : α} (hl:ws.length=m + 1) (h:ws[m]?=some x):atI ws (-1)=some x:=by
 have hne:ws ≠ []:=fun z=>by rw [z] at hl; simp at hl
 have e:ws=ws.dropLast ++ [ws.getLast hne]:=(List.dropLast_concat_getLast hne).symm
 have e2:ws.getLast hne=x:=by
  rw [List.getLast_eq_getElem]
  have:ws[m]?=some (ws[ws.length - 1]'(by omega)):=by rw [List.getElem?_eq_getElem (by omega)]; congr 2; omega
  rw [h] at this
  exact (Option.some.inj this).symm
 rw [e,e2]
 exact at_last _ _
theorem eqv_bools (a b:List Bool):PyData.eqv (.list (a.map PyData.bool)) (.list (b.map PyData.bool))=decide (a=b):=by
 rw [PyData.eqv]
 induction a generalizing b with
 | nil=>cases b with
  | nil=>simp [PyData.eqvAll]
  | cons y b=>simp [PyData.eqvAll]
 | cons x a ih=>cases b with
  | nil=>simp [PyData.eqvAll]
  | cons y b =>
   rw [List.map_cons,List.map_cons,PyData.eqvAll,ih b]
   cases x <;> cases y <;> simp [PyData.eqv]
theorem zcv (a:List Bool):SeqAt.shaped (.list (a.map PyData.bool))=true:=by
 have h1:PyData.canLayAll0 (a.map PyData.bool)=true:=by
  induction a with
  | nil=>rfl
  | cons x a ih=>rw [List.map_cons,PyData.canLayAll0,ih]; cases x <;> rfl
 have h2:∀ a:List Bool,PyData.depthAll (a.map PyData.bool)=0:=by
  intro a
  induction a with
  | nil=>rfl
  | cons x a ih=>rw [List.map_cons,PyData.depthAll,ih]; rfl
 simp [SeqAt.shaped,PyData.canLay0,PyData.depth,h1,h2]
theorem zeB {K:W.Frag} {H:Hp} {a:Addr} {bs:List Bool} (h:H a=some (.lst (bs.map V.bl))):VD K H (.ref a) (.list (bs.map PyData.bool)) := .lst (SqL.of h) (VDs.map fun x _ => .bl x)
noncomputable def RowsR (H:Hp) (ws:List V) (C:Combs) (m:Nat):Prop:=ws.length=m + 1/\∀ i:Nat,i<=m->∃ q,ws[i]?=some (.ref q)/\H q=some (.lst ((rowAt C i).map V.bl))
theorem RowsR.same {H H':Hp} {ws:List V} {C:Combs} {m:Nat} (r:RowsR H ws C m) (s:Same H H'):RowsR H' ws C m:=⟨r.1,fun i h=>let ⟨q,a,b⟩:=r.2 i h; ⟨q,a,s _ _ b⟩⟩
theorem RowsR.ne {H:Hp} {ws:List V} {C:Combs} {m:Nat} (r:RowsR H ws C m) {p q:Addr} {bs:List Bool} (hp:H p=some (.lst ws)) (hq:H q=some (.lst (bs.map V.bl))):q≠p:=fun z=>by
 rw [z,hp] at hq
 obtain ⟨qa,e,_⟩:=r.2 0 (Nat.zero_le _)
 injection hq with hq
 injection hq with hq
 rw [hq,List.getElem?_map] at e
 cases h:bs[0]? with
 | none=>rw [h] at e; cases e
 | some b=>rw [h] at e; cases e
theorem RowsR.snoc {H:Hp} {ws:List V} {C:Combs} {m:Nat} (r:RowsR H ws C m) {p q:Addr} (hp:H p=some (.lst ws)) (hq:H q=some (.lst ((rowAt C (m + 1)).map V.bl))):RowsR (upd H p (.lst (ws ++ [.ref q]))) (ws ++ [.ref q]) C (m + 1):=by
 refine ⟨by rw [List.length_append,r.1]; rfl,fun i hi => ?_⟩
 by_cases e:i=m + 1
 ·subst e
  exact ⟨q,by rw [List.getElem?_append_right (by rw [r.1]; omega),r.1]; simp,by rw [zah (r.ne hp hq)]; exact hq⟩
 ·obtain ⟨qa,e1,e2⟩:=r.2 i (by omega)
  exact ⟨qa,by rw [List.getElem?_append_left (by rw [r.1]; omega)]; exact e1,by rw [zah (r.ne hp e2)]; exact e2⟩
theorem zfi:∀ {xs:List V} {us:List Value},xs.length=us.length->(∀ (j:Nat) x u,xs[j]?=some x->us[j]?=some u->RelV x u)->Vals xs us
 | [],[],_,_ => .nil
 | x :: xs,u :: us,hl,h => .cons (h 0 x u rfl rfl) (zfi (by simpa using hl) fun j y z e1 e2=>h (j + 1) y z (by simpa using e1) (by simpa using e2))
section
variable {X:Cx}
theorem call_listD (hc:X.calm=true):CallR X (.type "list") (fun xs H Q=>∃ (a:Addr) (kvs:List (Key×V)),xs = [V.ref a]/\Rd H a (.dK kvs)/\∀ l,H l=none->Q (.ref l) (upd H l (.lst (kvs.map fun kv=>kV kv.1)))):=by
 intro pins s σ H xs us Q I r h
 obtain ⟨a,kvs,rfl,hq,q⟩:=h
 obtain ⟨u,rfl,ru⟩:=zbq r
 cases ru
 obtain ⟨hz,lo,vs,kv,hD⟩:=(show ObjOk X.prog X.w H s.heap a (.dK kvs) from hq.ok I.hok)
 obtain ⟨ep,hat⟩:=hD.dictAt
 have hlen:=kv.length
 refine PySem.W.kdl_call (PySem.W.kdl_dict (knd:=mixKind X.prog X.w) (kvs:=vs) (ep:=ep) lo) (I.ok.hd hc) hat (by omega) fun h' tk acc c' hk hS hacc => ?_
 refine ⟨.ref s.heap.objs.size,_,I.laid (t':=tk) hk (Nat.le_refl _) (show ObjOk X.prog X.w _ h' _ (.lst (kvs.map fun kv=>kV kv.1)) from ⟨by rw [List.length_map]; exact hz,acc.toList,c',zfi ?_ ?_,by simpa using hS⟩),rfl,q _ (I.hok.fresh (Nat.le_refl _))⟩
 ·have e:=hacc.1
  rw [List.length_map,Array.length_toList]
  exact hlen.trans e.symm
 ·intro j x u e1 e2
  obtain ⟨k,y,e3,hk2⟩:=hacc.2 j u (by rw [<- Array.getElem?_toList]; exact e2)
  obtain ⟨v',e4,_⟩:=kv.get e3
  rw [List.getElem?_map,e4] at e1
  cases e1
  exact kV_rel hk2
end
theorem zaX:∀ (n:Nat) (l:List Nat),l.Nodup->(∀ x∈l,x < n)->l.length<=n
 | 0,[],_,_=>Nat.le_refl _
 | 0,x :: l,_,h=>absurd (h x List.mem_cons_self) (by omega)
 | n + 1,l,nd,h=>by
  by_cases hn:n∈l
  ·have e:=List.length_erase_of_mem hn
   have:=zaX n (l.erase n) (nd.erase n) (fun x hx=>by
    have h1:=h x (List.mem_of_mem_erase hx)
    have h2:x≠n:=((List.Nodup.mem_erase_iff nd).mp hx).1
    omega)
   omega
  ·have:=zaX n l nd (fun x hx=>by
    have h1:=h x hx
    have h2:x≠n:=fun z=>hn (z ▸ hx)
    omega)
   omega
noncomputable def nx (C:Combs) (row:List Bool) (s:Nat):Option (Str×Int):=(stp C s).find? fun p=>tr row p.2.toNat
noncomputable def wk (C:Combs) (row:List Bool) (s:Nat):Nat->Nat
 | 0=>s
 | i + 1=>((nx C row (wk C row s i)).map (·.2.toNat)).getD 0
noncomputable def wn (C:Combs) (row:List Bool) (s i:Nat):Str:=((nx C row (wk C row s i)).map (·.1)).getD (Str.ofString "")
theorem zgA {C:Combs} {row:List Bool} (g:GC C) (hr:nxtRow C row=row) {s:Nat} (hs:s < 128) (ht:tr row s=true):∃ p,nx C row s=some p/\p∈stp C s/\0<=p.2/\p.2.toNat < 128/\tr row p.2.toNat=true:=by
 rw [<- hr,zbS hs] at ht
 cases e:nx C row s with
 | none =>
  have:=List.find?_eq_none.mp e
  obtain ⟨p,hp,hq⟩:=List.any_eq_true.mp ht
  exact absurd hq (this p hp)
 | some p =>
  have hm:p∈stp C s:=List.mem_of_find?_eq_some e
  exact ⟨p,rfl,hm,(zcu g hs hm).1,(zcu g hs hm).2,by have:=List.find?_some e; exact this⟩
theorem zfh {C:Combs} {row:List Bool} (g:GC C) (hr:nxtRow C row=row) {s:Nat} (hs:s < 128) (ht:tr row s=true):∀ i,wk C row s i < 128/\tr row (wk C row s i)=true
 | 0=>⟨hs,ht⟩
 | i + 1=>by
  obtain ⟨h1,h2⟩:=zfh g hr hs ht i
  obtain ⟨p,e,_,_,h4,h5⟩:=zgA g hr h1 h2
  have:wk C row s (i + 1)=p.2.toNat:=by
   show ((nx C row (wk C row s i)).map (·.2.toNat)).getD 0=_
   rw [e]; rfl
  rw [this]
  exact ⟨h4,h5⟩
theorem zfg {C:Combs} {row:List Bool} (g:GC C) (hr:nxtRow C row=row) {s:Nat} (hs:s < 128) (ht:tr row s=true) (i:Nat):nx C row (wk C row s i)=some (wn C row s i,(wk C row s (i + 1):Int)):=by
 obtain ⟨h1,h2⟩:=zfh g hr hs ht i
 obtain ⟨p,e,_,h3,h4,h5⟩:=zgA g hr h1 h2
 have a:wn C row s i=p.1:=by unfold wn; rw [e]; rfl
 have b:wk C row s (i + 1)=p.2.toNat:=by
  show ((nx C row (wk C row s i)).map (·.2.toNat)).getD 0=_
  rw [e]; rfl
 rw [e,a,b,show ((p.2.toNat:Nat):Int)=p.2 by omega]
theorem wk_mem {C:Combs} {row:List Bool} (g:GC C) (hr:nxtRow C row=row) {s:Nat} (hs:s < 128) (ht:tr row s=true) (i:Nat):(wn C row s i,(wk C row s (i + 1):Int))∈stp C (wk C row s i):=List.mem_of_find?_eq_some (zfg g hr hs ht i)
noncomputable def seenK (f:Nat->Nat) (i:Nat):List (Key×V):=(List.range i).map fun j=>(Sum.inl ((f j:Nat):Int),V.int (j:Int))
theorem seenK_succ (f:Nat->Nat) (i:Nat):seenK f (i + 1)=seenK f i ++ [(Sum.inl ((f i:Nat):Int),V.int (i:Int))]:=by
 unfold seenK
 rw [List.range_succ,List.map_append]
 rfl
theorem zdT (f:Nat->Nat) (i:Nat):(seenK f i).length=i:=by unfold seenK; rw [List.length_map,List.length_range]
theorem zcK (f:Nat->Nat) (i x:Nat):valV (seenK f i) (Sum.inl (x:Int))=((List.range i).find? fun j=>decide (f j=x)).map fun (j:Nat)=>V.int (j:Int):=by
 unfold valV seenK
 have e:(fun j:Nat=>decide ((Sum.inl ((f j:Nat):Int):Key)=Sum.inl (x:Int)))=fun j=>decide (f j=x):=funext fun j=>by
  rw [decide_eq_decide]
  constructor
  ·intro h; injection h with h; omega
  ·intro h; rw [h]
 rw [List.find?_map,Option.map_map]
 show Option.map (fun j:Nat=>V.int (j:Int)) (List.find? (fun j:Nat=>decide ((Sum.inl ((f j:Nat):Int):Key)=Sum.inl (x:Int))) (List.range i))=_
 rw [e]
noncomputable def LaysR (H:Hp) (vs:List V) (n:Nat->Str) (i:Nat):Prop:=Paired (fun (j:Nat) (v:V)=>∃ q,v = .ref q/\H q=some (.tup [.int (j:Int),.str (n j)])) ((List.range i).filter fun j=>decide (n j≠Str.ofString "")) vs
theorem LaysR.mono {H H':Hp} {vs:List V} {n:Nat->Str} {i:Nat} (m:∀ q xs,H q=some (.tup xs)->H' q=some (.tup xs)) (r:LaysR H vs n i):LaysR H' vs n i:=Paired.mapP r fun _ _ ⟨q,a,b⟩=>⟨q,a,m _ _ b⟩
theorem LaysR.skip {H:Hp} {vs:List V} {n:Nat->Str} {i:Nat} (r:LaysR H vs n i) (h:n i=Str.ofString ""):LaysR H vs n (i + 1):=by
 unfold LaysR
 rw [List.range_succ,List.filter_append,List.filter_cons,if_neg (by simpa using h),List.filter_nil,List.append_nil]
 exact r
theorem LaysR.snoc {H:Hp} {vs:List V} {n:Nat->Str} {i:Nat} {q:Addr} (r:LaysR H vs n i) (h:n i≠Str.ofString "") (hq:H q=some (.tup [.int (i:Int),.str (n i)])):LaysR H (vs ++ [.ref q]) n (i + 1):=by
 unfold LaysR
 rw [List.range_succ,List.filter_append,List.filter_cons,if_pos (by simpa using h),List.filter_nil]
 exact Paired.snoc r ⟨q,rfl,hq⟩
theorem LaysR.len {H:Hp} {vs:List V} {n:Nat->Str} {i:Nat} (r:LaysR H vs n i):vs.length<=i:=by
 rw [<- Paired.length r]
 exact Nat.le_trans (List.length_filter_le _ _) (by rw [List.length_range]; omega)
theorem zdV {C:Combs} {m:Nat} (h:nxtRow C (rowAt C m)=rowAt C m):∀ k,rowAt C (m + k)=rowAt C m
 | 0=>rfl
 | k + 1=>by
  show nxtRow C (rowAt C (m + k))=_
  rw [zdV h k,h]
theorem zfl {C:Combs} (g:GC C) {s:Nat} (hs:s < 128) {i:Nat}:∀ k,tr (rowAt C (i + k)) s=true->tr (rowAt C i) s=true
 | 0,h=>h
 | k + 1,h=>zfl g hs k (zcm g (i + k) s hs h)
section
variable {prog:Program} {w:World} {A:Around} {E:Value->Shared->Prop} {s:Shared} {d it:Addr} {o:Obj} {es:Array DictEntry} {ep i:Nat}
theorem zfV (ho:s.heap.get? d=some o) (hc:o.ExactDict):s.TypeIs (.ref d) "dict" := ⟨o,ho,hc.1⟩
theorem ed_iter {Q:Value->Shared->Prop} (hd:(d == sysModules)=false) (ho:s.heap.get? d=some o) (hc:o.ExactDict) (hdat:o.data = .dict es ep)
  (hQ:Q (.ref s.heap.objs.size) { s with heap:=s.heap.push { cls := .type "dict_keyiterator",data := .fields #[.ref d,.int 0 0,.int es.size 0,.int ep 0] } }):wpAny (model prog w) A (pyIter (.ref d)) Q E s:=by
 have hT:=zfV ho hc
 refine wpAny_pyIter_slot hT F.slot_dict_iter (wpAny_call_entry F.slot_dict_iter hT F.entry_dict_iter (show wpAny _ _ (Builtin.«dict.__iter__» _) _ _ _ from ?_) (F.args_dict_iter_1 _))
 unfold Builtin.«dict.__iter__»; refine wpAny_bind ?_
 unfold Builtin.Dict.dictSlotNone; refine wpAny_bind (wpAny_notOrdered_dict hT (show wpAny _ _ (pure (Value.ref d)) _ _ s from wpAny_pure (show wpAny _ _ (Builtin.Dict.showsAll d >>= _) _ _ s from ?_)))
 unfold Builtin.Dict.showsAll; rw [if_neg (by rw [hd]; exact Bool.false_ne_true)]
 refine wpAny_bind (wpAny_pure (wpAny_bind (wpAny_dictEntries ho hdat (wpAny_bind (wpAny_dictEpoch ho hdat (wpAny_bind (wpAny_newObj_type (wpAny_pure ⟨_,rfl,"dict_keyiterator",_,⟨_,Heap.get?_push_size _ rfl,rfl⟩,F.slot_dict_keyiterator_next.lookup,?_⟩))))))))
 simpa [rawInt] using hQ
theorem ed_next {Q:Option Value->Shared->Prop} (hit:s.heap.IsKeyIter it d i es.size ep) (hod:s.heap.get? d=some o) (hdd:o.data = .dict es ep) (hlt:i < es.size)
  (hQ:∀ h',h'.IsKeyIter it d (i + 1) es.size ep->Heap.SameBut it s.heap h'->Q (some es[i].key) { s with heap:=h' }):wpAny (model prog w) A (pyNext (.ref it)) Q E s:=by
 obtain ⟨oi,hi,hc,hd⟩:=id hit
 have hown:Builtin.Dict_items.ownsTuple "dict_keyiterator" = false:=by decide
 unfold pyNext
 refine wpAny_bind (wpAny_attempt (wpAny_callSpecial?_slot (name:=Str.ofString "__next__") hit.typeIs F.slot_dict_keyiterator_next (wpAny_call_entry F.slot_dict_keyiterator_next hit.typeIs F.entry_dict_keyiterator_next ?_ (F.args_dict_keyiterator_next_1 _))))
 refine wpAny_bind (wpAny_pure (wpAny_bind (wpAny_bind ?_)))
 first | refine wpAny_bind (wpAny_typeNameOfWhole_keyiter hit.typeIs (wpAny_pure (wpAny_bind (wpAny_fieldsOf hi hd ?_)))) | refine wpAny_bind (wpAny_typeNameOf_keyiter hit.typeIs (wpAny_pure (wpAny_bind (wpAny_fieldsOf hi hd ?_))))
 simp only [hown,Bool.false_eq_true,if_false]
 show wpAny _ _ (if (Value.ref d == Value.none)=true then _ else _) _ _ s
 rw [if_neg (show ¬ ((Value.ref d == Value.none)=true) from Bool.false_ne_true)]; refine wpAny_bind (wpAny_pure (wpAny_bind (wpAny_dictEntries hod hdd ?_)))
 rw [if_neg (by simp)]; refine wpAny_bind (wpAny_pure (wpAny_bind (wpAny_dictEpoch hod hdd ?_)))
 rw [if_neg (by simp)]; refine wpAny_pure ?_
 simp only [show ¬ ((i:Int) < 0) from by omega,if_false,Int.toNat_natCast,Array.getElem?_eq_getElem hlt]; refine wpAny_bind ?_
 first | refine wpAny_bind (wpAny_typeNameOfWhole_keyiter hit.typeIs (wpAny_pure (wpAny_bind (wpAny_isOneOf_keyiter hit.typeIs ?_)))) | refine wpAny_bind (wpAny_typeNameOf_keyiter hit.typeIs (wpAny_pure (wpAny_bind (wpAny_isOneOf_keyiter hit.typeIs ?_))))
 have hit':(s.heap.update it (Obj.mapFields (·.setIfInBounds 1 (rawInt ((i:Int) + 1))))).IsKeyIter it d (i + 1) es.size ep:=⟨_,Heap.get?_update_self _ hi (Obj.isFreed_of_fields (Obj.data_mapFields hd _)),(Obj.cls_mapFields ..).trans hc,by rw [Obj.data_mapFields hd]; simp [rawInt]⟩
 refine (show wpAny _ _ (setField (.ref it) 1 (rawInt ((i:Int) + 1)) >>= _) _ _ s from wpAny_bind (wpAny_setField hi hd (by simp) (wpAny_bind (wpAny_holding (wpAny_bind (wpAny_isOneOf_keyiter (s:={ s with heap:=s.heap.update it (Obj.mapFields (·.setIfInBounds 1 (rawInt ((i:Int) + 1)))) }) hit'.typeIs ?_))))))
 show wpAny _ _ (pure es[i].key) _ _ _
 exact wpAny_pure (wpAny_pure ⟨_,rfl,wpAny_pure (hQ _ hit' (Heap.SameBut.update ..))⟩)
theorem ed_end {Q:Option Value->Shared->Prop} (hh:A.handled=none) (hit:s.heap.IsKeyIter it d i es.size ep) (hod:s.heap.get? d=some o) (hdd:o.data = .dict es ep) (hge:es.size<=i)
  (hQ:∀ h',Heap.ExtBut it s.heap h'->Q none { s with heap:=h' }):wpAny (model prog w) A (pyNext (.ref it)) Q E s:=by
 obtain ⟨oi,hi,hc,hd⟩:=id hit
 have hown:Builtin.Dict_items.ownsTuple "dict_keyiterator" = false:=by decide
 unfold pyNext
 refine wpAny_bind (wpAny_attempt (wpAny_callSpecial?_slot (name:=Str.ofString "__next__") hit.typeIs F.slot_dict_keyiterator_next (wpAny_call_entry F.slot_dict_keyiterator_next hit.typeIs F.entry_dict_keyiterator_next ?_ (F.args_dict_keyiterator_next_1 _))))
 refine wpAny_bind (wpAny_pure (wpAny_bind (wpAny_bind ?_)))
 first | refine wpAny_bind (wpAny_typeNameOfWhole_keyiter hit.typeIs (wpAny_pure (wpAny_bind (wpAny_fieldsOf hi hd ?_)))) | refine wpAny_bind (wpAny_typeNameOf_keyiter hit.typeIs (wpAny_pure (wpAny_bind (wpAny_fieldsOf hi hd ?_))))
 simp only [hown,Bool.false_eq_true,if_false]
 show wpAny _ _ (if (Value.ref d == Value.none)=true then _ else _) _ _ s
 rw [if_neg (show ¬ ((Value.ref d == Value.none)=true) from Bool.false_ne_true)]; refine wpAny_bind (wpAny_pure (wpAny_bind (wpAny_dictEntries hod hdd ?_)))
 rw [if_neg (by simp)]; refine wpAny_bind (wpAny_pure (wpAny_bind (wpAny_dictEpoch hod hdd ?_)))
 rw [if_neg (by simp)]; refine wpAny_pure ?_
 simp only [show ¬ ((i:Int) < 0) from by omega,if_false,Int.toNat_natCast,Array.getElem?_eq_none hge]; refine wpAny_bind ?_
 first | refine wpAny_bind (wpAny_typeNameOfWhole_keyiter hit.typeIs (wpAny_pure ?_)) | refine wpAny_bind (wpAny_typeNameOf_keyiter hit.typeIs (wpAny_pure ?_))
 refine (show wpAny _ _ (setField (.ref it) 0 .none >>= _) _ _ s from wpAny_bind (wpAny_setField hi hd (by simp) (show wpAny _ _ (newExc (.type "StopIteration") [] >>= _) _ _ _ from wpAny_bind ?_)))
 simp only [newExc,newTuple]; refine wpAny_bind (wpAny_newObj_type ?_ (by size_fits))
 refine wpAny_bind (m:=firstArgMember _ _) (wpAny_of_eq (a:=Value.none) (by first | rfl | (simp only [firstArgMember]; rfl)) (wpAny_newObj_type ?_ (by size_fits)))
 simp only [raiseNew]; refine wpAny_bind (wpAny_handled ?_); rw [show A.in1.handled=none from hh]
 refine wpAny_bind (wpAny_pure (wpAny_throw ?_)); refine wpAny_bind (wpAny_isInstance (T := "StopIteration") (b:=true) ⟨_,Heap.get?_push_size _ rfl,rfl⟩ isSubtype_stop ?_); exact wpAny_pure (hQ _ (((Heap.SameBut.update ..).extBut.push _).push _))
end
theorem Paired.rev {α β : Type} {R : α -> β -> Prop}:∀ {l:List α} {m:List β} {i:Nat} {y : β},Paired R l m->m[i]?=some y->∃ x,l[i]?=some x/\R x y
 | _,_,i,x,.nil,h=>by simp at h
 | _,_,0,x,.cons h r,e=>by
  simp at e
  subst e
  exact ⟨_,rfl,h⟩
 | _,_,i + 1,x,.cons h r,e=>by
  obtain ⟨y,e1,e2⟩:=Paired.rev (i:=i) r (by simpa using e)
  exact ⟨y,by simpa using e1,e2⟩
section
variable {X:Cx} {pins:List (Addr×Obj)} {σ : St} {H:Hp} {s:Shared} {a:Addr} {kvs:List (List Key×V)}
theorem Inv.freezeT (I:Inv X pins σ H s) (h:H a=some (.dT kvs)):∃ o,s.heap.get? a=some o/\Inv X pins σ (upd H a (.frz o (.dT kvs))) s:=by
 have ok:=(show ObjOk X.prog X.w H s.heap a (.dT kvs) from I.hok a _ h)
 obtain ⟨o,ho⟩:=ok.there
 refine ⟨o,ho,?_⟩
 have:=Inv.write (x:=a) (e:=a) (o := .frz o (.dT kvs)) (h':=s.heap) (t':=s.toks) I (by rw [h]; trivial) (.inl rfl) (fun _ _ _ q=>q) ⟨o,ho⟩ ⟨ho,ok.stay (fun _ _ _ q=>q) (fun b q=>by rw [zah (fun z=>by rw [z,h] at q; cases q)]; exact q) fun b xs q=>by rw [zah (fun z=>by rw [z,h] at q; cases q)]; exact q⟩
 exact this
theorem Inv.unfreezeT {o:Obj} (I:Inv X pins σ H s) (h:H a=some (.frz o (.dT kvs))) (h0:∀ o u,X.H₀ a≠some (.frz o u)):Inv X pins σ (upd H a (.dT kvs)) s:=by
 have nn:∀ b,H b=none->b≠a:=fun b q z=>by rw [z,h] at q; cases q
 obtain ⟨ho,ok⟩:=(show ObjOk X.prog X.w H s.heap a (.frz o (.dT kvs)) from I.hok a _ h)
 have own:∀ b y,H b=some (.own y)->upd H a (.dT kvs) b=some (.own y):=fun b y q=>by rw [zah (fun z=>by rw [z,h] at q; cases q)]; exact q
 have tups:∀ b xs,H b=some (.tup xs)->upd H a (.dT kvs) b=some (.tup xs):=fun b y q=>by rw [zah (fun z=>by rw [z,h] at q; cases q)]; exact q
 refine ⟨I.ok,I.os,I.bare,⟨I.base.keep,I.base.slot,fun b u q n hx => ?_,I.base.there,fun b xs q=>tups b xs (I.base.tups b xs q),fun b u v q => ?_,fun b ps q => ?_⟩,I.loc,I.cell,?_,fun y c e => ?_,fun p hp => ?_,fun b u q => ?_,I.len⟩
 ·have:=I.base.free b u q n hx
  rw [zah (nn b this)]; exact this
 ·have q':=I.base.frzs b u v q
  rw [zah (fun z=>h0 _ _ (z ▸ q))]; exact q'
 ·obtain ⟨m,e⟩:=I.base.tbls b ps q
  exact ⟨m,by rw [zah (fun z=>by rw [z,h] at e; cases e)]; exact e⟩
 ·rw [zah (nn _ I.free)]; exact I.free
 ·rw [zah (nn _ (I.freeC y c e))]; exact I.freeC y c e
 ·obtain ⟨e1,e2,e3,e4,e5⟩:=I.pin p hp
  exact ⟨e1,by rw [zah (nn _ e2)]; exact e2,e3,e4,e5⟩
 ·by_cases hb:b=a
  ·subst hb
   rw [zac] at q
   cases q
   exact ok.stay (fun _ _ _ q=>q) (fun c q=>own c _ q) tups
  ·rw [zah hb] at q
   exact (I.hok b u q).stay (fun _ _ _ q=>q) (fun c q=>own c _ q) tups
end
noncomputable def IttD (a:Addr) (o:Obj) (kvs:List (List Key×V)):It:=⟨fun i H=>H a=some (.frz o (.dT kvs))/\i < kvs.length,fun i H v H'=>H'=H/\∃ k y b,kvs[i]?=some (k,y)/\v = .ref b/\H b=some (.tup (k.map kV)),fun i H=>H a=some (.frz o (.dT kvs))/\kvs.length<=i⟩
theorem zet {X:Cx} {pins:List (Addr×Obj)} {σ : St} {H:Hp} {s:Shared} {a:Addr} {o:Obj} {kvs:List (List Key×V)} {es:Array DictEntry} {ep:Nat} (I:Inv X pins σ H s) (h:H a=some (.frz o (.dT kvs))) (hd:o.data = .dict es ep) :
  s.heap.get? a=some o/\(a == sysModules)=false/\o.ExactDict/\es.size=kvs.length/\∀ i (hi:i < es.size),∃ k y b,kvs[i]?=some (k,y)/\es[i].key = .ref b/\H b=some (.tup (k.map kV)):=by
 obtain ⟨ho,hz,lo,xs,kt,o',es',ep',ho',c,d,r,_⟩:=(show ObjOk X.prog X.w H s.heap a (.frz o (.dT kvs)) from I.hok a _ h)
 rw [ho] at ho'
 cases ho'
 rw [hd] at d
 cases d
 have hl:=Paired.length kt
 have hl2:es.size=xs.length:=by rw [<- Array.length_toList,r,List.length_map]
 refine ⟨ho,lo,c,by omega,fun i hi => ?_⟩
 have e1:es.toList[i]?=some es[i]:=by simp [hi]
 rw [r,List.getElem?_map] at e1
 cases ex:xs[i]? with
 | none=>rw [ex] at e1; cases e1
 | some x =>
  rw [ex] at e1
  obtain ⟨p,ep,h1,h2,h3⟩:=Paired.rev kt ex
  refine ⟨p.1,p.2,x.2.1,ep,?_,h2⟩
  rw [<- Option.some.inj e1]
  rfl
theorem turn_dictT {P:Program} {w:World} {K:W.Frag} {tg:Expr} (a it:Addr) (o:Obj) (kvs:List (List Key×V)) (es:Array DictEntry) (ep:Nat) (hd:o.data = .dict es ep) :
  Turn P w K tg (IttD a o kvs) [it] it (fun i h=>h.IsKeyIter it a i es.size ep) where
 mem:=by simp
 obj:=fun i h st b hb=>by
  have e:b=it:=by simpa using hb
  subst e
  obtain ⟨o,e,c,d⟩:=st
  exact ⟨o,e,fun v z=>by rw [d] at z; cases z⟩
 keep:=fun i h h' st k=>by
  obtain ⟨o,e,r⟩:=st
  exact ⟨o,k it (by simp) o e,r⟩
 item:=by
  intro X hP hw hK hc i pins s σ H E I hf st hg
  subst hP hw hK
  obtain ⟨hz,hi⟩:=hg
  obtain ⟨ho,lo,hex,hsz,hk⟩:=zet I hz hd
  obtain ⟨f0,f1,f2,f3,f4,f5⟩:=hf it (by simp)
  obtain ⟨k,y,b,e1,e2,e3⟩:=hk i (by omega)
  refine ed_next st ho hd (by omega) fun h' st' sb => ?_
  have I1:Inv X pins σ H { s with heap:=h' }:=I.turned (t':=s.toks) (fun b o hb e=>(sb.2 b hb).trans e) f0 f1 f3 f4 f5
  obtain ⟨o',e,c,d⟩:=id st'
  refine ⟨_,rfl,zf7 (s:={ s with heap:=h' }) e c d (by decide) ⟨.ref b,H,I1,e2,⟨rfl,k,y,b,e1,rfl,e3⟩,st',fun b hb=>(hf b hb).1⟩⟩
 done:=by
  intro X hP hw hK hc i pins s σ H E I hf st hg
  subst hP hw hK
  obtain ⟨hz,hi⟩:=hg
  obtain ⟨ho,lo,hex,hsz,hk⟩:=zet I hz hd
  obtain ⟨f0,f1,f2,f3,f4,f5⟩:=hf it (by simp)
  exact ed_end (I.ok.hd hc) st ho hd (by omega) fun h' eb=>⟨rfl,I.turned (t':=s.toks) (fun b o hb e=>eb b o hb e) f0 f1 f3 f4 f5⟩
 self:=fun A i s Q E st h=>by
  obtain ⟨o,e,c,d⟩:=st
  exact wpAny_pyIter_keyiter ⟨o,e,c,d⟩ h
section
variable {X:Cx} {tg:Expr}
noncomputable def iDicT (i:Nat):TI:=fun σ H R=>∃ a o kvs,σ[i]?=some (some (.ref a))/\H a=some (.frz o (.dT kvs))/\R (IttD a o kvs) H
theorem pi_dicT {i:Nat} {x:Str} {np:Pos} (hx:PE X (.Name x np) (tVar i)):PI X tg (.Name x np) (iDicT i):=by
 intro pins s σ H R I h
 obtain ⟨a,o,kvs,hσ,ha,q⟩:=h
 refine thnE (hx pins s σ H (fun v H1=>v = .ref a/\H1=H) I ⟨_,hσ,rfl,rfl⟩) fun v s1 y H1 I1 r1 ⟨e1,e2⟩ => ?_
 subst e1 e2
 cases r1
 obtain ⟨ho,_,_,_,_,o',es,ep,ho',_,d,_⟩:=(show ObjOk X.prog X.w H1 s1.heap a (.frz o (.dT kvs)) from I1.hok a _ ha)
 rw [ho] at ho'
 cases ho'
 obtain ⟨_,lo,hex,hsz,_⟩:=zet I1 ha d
 refine ed_iter lo ho hex d ?_
 refine ⟨s1.heap.objs.size,[s1.heap.objs.size],_,_,H1,rfl,I1.kept (t':=s1.toks) fun b o e=>Heap.get?_push_of_some _ e,turn_dictT a _ o kvs es ep d,?_,fun b hb => ?_,q⟩
 ·exact ⟨_,Heap.get?_push_size _ rfl,rfl,rfl⟩
 ·have e:b=s1.heap.objs.size:=by simpa using hb
  subst e
  exact I1.fpOk (Nat.le_refl _) (I1.hok.fresh (Nat.le_refl _))
noncomputable def DfrzT (a:Addr) (o:Obj) (kvs:List (List Key×V)) (D:Ends):Ends:={ nx:=fun σ H=>H a=some (.frz o (.dT kvs))/\D.nx σ (upd H a (.dT kvs)),rt:=fun v H=>H a=some (.frz o (.dT kvs))/\D.rt v (upd H a (.dT kvs)),bk:=fun σ H=>H a=some (.frz o (.dT kvs))/\D.bk σ (upd H a (.dT kvs)),ct:=fun σ H=>H a=some (.frz o (.dT kvs))/\D.ct σ (upd H a (.dT kvs)) }
noncomputable def tForT (i:Nat) (g:TG) (tb:TS):TS:=fun D σ H=>∃ a kvs,σ[i]?=some (some (.ref a))/\H a=some (.dT kvs)/\∀ o,∃ W:Nat->Nat->St->Hp->Prop,(∃ m,W 0 m σ (upd H a (.frz o (.dT kvs))))/\∀ j m σ H,W j m σ H ->
 ((IttD a o kvs).stop j H/\(DfrzT a o kvs D).nx σ H)\/((IttD a o kvs).go j H/\∃ N:St->Hp->Prop,(∀ σ' H',N σ' H'->∃ m',m' < m/\W (j + 1) m' σ' H') /\
  ∀ x H',(IttD a o kvs).yld j H x H'->g x σ H' fun σ2 H2=>tb { DfrzT a o kvs D with nx:=N,ct:=N,bk:=(DfrzT a o kvs D).nx } σ2 H2)
theorem ps_forT {i:Nat} {x:Str} {body:List Stmt} {g:TG} {tb:TS} {np pos:Pos} (hp:PassesOwn (model X.prog X.w) X.A X.env X.xe) (hc:X.calm=true) (hx:PE X (.Name x np) (tVar i)) (hg:PG X tg g) (hb:PSs X body tb)
  (hs:∀ y,foldedSetIterable (.Name x np) X.env y=pure y:=by intro _; rfl):PS X (.For tg (.Name x np) body [] pos) (tForT i g tb):=by
 intro pins s σ H D I h
 obtain ⟨a,kvs,hσ,ha,h⟩:=h
 obtain ⟨o,ho,I1⟩:=I.freezeT ha
 have h0:∀ o u,X.H₀ a≠some (.frz o u):=fun o' u z=>by
  have:=I.base.frzs a o' u z
  rw [ha] at this
  cases this
 refine wpAny_mono (zbi hp hc (pi_dicT hx) hg hb hs pins s σ (upd H a (.frz o (.dT kvs))) (DfrzT a o kvs D) I1 ⟨a,o,kvs,hσ,zac,h o⟩) (fun f s' q => ?_) fun _ _ z=>z
 cases f with
 | next=>obtain ⟨σ',H',J,e,q⟩:=q; exact ⟨σ',_,J.unfreezeT e h0,q⟩
 | brk=>obtain ⟨σ',H',J,e,q⟩:=q; exact ⟨σ',_,J.unfreezeT e h0,q⟩
 | cont=>obtain ⟨σ',H',J,e,q⟩:=q; exact ⟨σ',_,J.unfreezeT e h0,q⟩
 | ret u=>obtain ⟨v,σ',H',J,r,e,q⟩:=q; exact ⟨v,σ',_,J.unfreezeT e h0,r,q⟩
end
section
variable {prog:Program} {w:World} {A:Around} {E:Value->Shared->Prop} {s:Shared} {d:Addr} {o:Obj} {es:Array DictEntry} {ep:Nat}
theorem ed_len {Q:Value->Shared->Prop} (hd:(d == sysModules)=false) (ho:s.heap.get? d=some o) (hc:o.ExactDict) (hdat:o.data = .dict es ep) (hfit:(es.size:Int) < 2 ^ 63) (h:Q (.int es.size (s.toks + 1)) { s with toks:=s.toks + 1 + 1 }):wpAny (model prog w) A (call (.builtin "len") [.ref d]) Q E s:=by
 have hT:=zfV ho hc
 refine Calls.call_function_entry kind_len plain_len entry_len (args_len1 _) (show wpAny _ _ (Builtin.«len» _) _ _ _ from ?_)
 unfold Builtin.«len»; refine wpAny_bind (m:=oneArg "len" _) (wpAny_pure ?_)
 refine wpAny_bind (m:=callSpecial? (.ref d) (Str.ofString "__len__")) (wpAny_callSpecial?_slot (name:=Str.ofString "__len__") hT F.slot_dict_len (wpAny_call_entry F.slot_dict_len hT F.entry_dict_len (show wpAny _ _ (dictSize d >>= _) _ _ s from ?_) (F.args_dict_len_1 _)))
 unfold dictSize; refine wpAny_bind (wpAny_bind (wpAny_dictEntries ho hdat (wpAny_pure (show wpAny _ _ (Builtin.Dict.pendingCount d >>= _) _ _ s from wpAny_bind (wpAny_pendingCount_other hd (wpAny_ret_mkInt ?_))))))
 show wpAny _ _ _ _ _ { s with toks:=s.toks + 1 }; refine wpAny_bind (wpAny_holding (wpAny_pure (wpAny_bind (wpAny_letGo ?_))))
 show wpAny _ _ (if ((es.size + 0:Nat):Int) < 0 then _ else _) _ _ _
 rw [if_neg (by omega)]
 show wpAny _ _ (if ((es.size + 0:Nat):Int)>=2 ^ 63 then _ else _) _ _ _
 rw [if_neg (by omega)]
 exact wpAny_bind (wpAny_mkInt (wpAny_pure ⟨_,rfl,h⟩))
theorem ed_copy {Q:Value->Shared->Prop} (hoS:(d == sysModules)=false) (ho:s.heap.get? d=some o) (hc:o.ExactDict) (hdat:o.data = .dict es ep) (hne:0 < es.size) (hsz:es.size<=sizeLine)
  (hkey:∀ e∈es,∃ b ob,e.key = .ref b/\s.heap.get? b=some ob/\ob.cls = .type "tuple") (hh:∀ e∈es,¬ (es.filter (·.hash == e.hash)).size > 1)
  (h:∀ h' od ep',h'.get? s.heap.objs.size=some od->od.ExactDict->od.data = .dict es ep'->Heap.SameBut s.heap.objs.size (s.heap.push { cls := .type "dict",data := .dict #[] }) h'->Q (.ref s.heap.objs.size) { s with heap:=h' }) :
  wpAny (model prog w) A (call (.type "dict") [.ref d]) Q E s:=by
 refine callType_codes (Q₁ := fun obj s₁ => obj = .ref s.heap.objs.size/\s₁ = { s with heap:=s.heap.push { cls := .type "dict",data := .dict #[] } }) F.kt_called_dict (F.kt_typeCall_dict_1 _) F.entry_dict_init (kt_code_dict_new _ ⟨rfl,rfl⟩) fun obj s₁ hq => ?_
 obtain ⟨rfl,rfl⟩:=hq
 have hn:(s.heap.push { cls := .type "dict",data := .dict #[] }).get? s.heap.objs.size=some { cls := .type "dict",data := .dict #[] }:=Heap.get?_push_size _ rfl
 have ho':(s.heap.push { cls := .type "dict",data := .dict #[] }).get? d=some o:=Heap.get?_push_of_some _ ho
 have hcn:Obj.ExactDict { cls := .type "dict",data := .dict #[] }:=⟨rfl,rfl,rfl⟩
 have hT:({ s with heap:=s.heap.push { cls := .type "dict",data := .dict #[] } }:Shared).TypeIs (.ref d) "dict" := ⟨o,ho',hc.1⟩
 have hTn:({ s with heap:=s.heap.push { cls := .type "dict",data := .dict #[] } }:Shared).TypeIs (.ref s.heap.objs.size) "dict" := ⟨_,hn,rfl⟩
 have hdo:s.heap.objs.size≠d:=fun e=>absurd (Heap.lt_size ho) (by rw [e]; exact Nat.lt_irrefl _)
 refine ⟨hTn,F.args_dict_init_2 _ _,?_⟩
 unfold Builtin.«dict.__init__»; refine wpAny_bind ?_
 unfold Builtin.Dict.selfAndRest; refine wpAny_bind (wpAny_notOrdered_dict hTn (show wpAny _ _ (pure (s.heap.objs.size,[Value.ref d])) _ _ _ from wpAny_pure (show wpAny _ _ (Builtin.Dict.updateFrom "dict.__init__" s.heap.objs.size (.ref d) [] .none) _ _ _ from ?_)))
 unfold Builtin.Dict.updateFrom; refine wpAny_bind (wpAny_typeOf hT ?_)
 rw [if_neg (by decide)]; refine wpAny_bind ?_
 unfold Builtin.Dict.merge; refine wpAny_bind ?_
 unfold Builtin.Dict.readDirectly; refine wpAny_bind (wpAny_isInstance hT isSubtype_dict_dict ?_)
 simp only [Bool.not_true,Bool.false_eq_true,if_false]; refine wpAny_bind (wpAny_specialOf hT F.slot_dict_iter.lookup (wpAny_pure ?_))
 simp only [beq_self_eq_true,if_true]; refine wpAny_bind (wpAny_pure ?_)
 show wpAny _ _ (Builtin.Dict.mergeDict _ _ _) _ _ _
 unfold Builtin.Dict.mergeDict; rw [if_neg (by simpa using hdo)]
 unfold Builtin.Dict.showsAll; rw [if_neg (by rw [hoS]; exact Bool.false_ne_true)]
 refine wpAny_bind (wpAny_pure (wpAny_bind (wpAny_dictEntries ho' hdat ?_)))
 have few:(decide (es.size<=8) && es.all fun e=>(keyPart e.key).isSome)=false:=by
  have:(es.all fun e=>(keyPart e.key).isSome)=false:=by
   rw [Array.all_eq_false]
   obtain ⟨b,ob,e1,_⟩:=hkey es[0] (Array.getElem_mem hne)
   exact ⟨0,hne,by rw [e1]; exact nofun⟩
  rw [this,Bool.and_false]
 dsimp only
 rw [few]
 simp only [Bool.not_false,if_true]
 refine wpAny_bind (wpAny_dictEntries hn rfl ?_)
 rw [if_pos (by rfl)]
 unfold Builtin.Dict.entriesForEmpty
 refine wpAny_bind (wpAny_bind (wpAny_dictEntries ho' hdat (wpAny_bind ?_)))
 rw [<- Array.forIn_toList]
 refine wpAny_forIn_list _ (fun rest _ s'=>s'={ s with heap:=s.heap.push { cls := .type "dict",data := .dict #[] } }/\∀ e∈rest,e∈es) _ ?_ ?_ _ _ ⟨rfl,fun e he=>Array.mem_toList_iff.mp he⟩
 ·rintro e rest b s' ⟨rfl,hr⟩
  obtain ⟨kb,ob,e1,e2,e3⟩:=hkey e (hr e List.mem_cons_self)
  have hTk:({ s with heap:=s.heap.push { cls := .type "dict",data := .dict #[] } }:Shared).TypeIs (.ref kb) "tuple" := ⟨ob,Heap.get?_push_of_some _ e2,e3⟩
  rw [e1]
  unfold Builtin.Dict.quietEq
  refine wpAny_bind (wpAny_bind (wpAny_specialOf hTk F.slot_tuple_eq.lookup (wpAny_pure ?_)))
  rw [if_pos (by decide),if_neg (hh e (hr e List.mem_cons_self))]
  exact wpAny_pure ⟨rfl,fun e' he=>hr e' (List.mem_cons_of_mem _ he)⟩
 ·rintro _ s' ⟨rfl,_⟩
  refine wpAny_pure ?_
  rw [if_pos (by simp; intro z; rw [z] at hne; exact absurd hne (by simp))]
  refine wpAny_bind (wpAny_updateDictKeysTo hn rfl (wpAny_pure ?_) (by show es.size<=_; omega))
  show wpAny _ _ (Builtin.Dict.addKeywords s.heap.objs.size [] >>= _) _ _ _
  exact wpAny_bind (wpAny_pure (wpAny_pure ⟨rfl,h _ _ _ (Heap.get?_update_self _ hn (Obj.isFreed_of_dict (Obj.data_mapDictKeys rfl _))) (hcn.mapDictKeys _) (Obj.data_mapDictKeys rfl _) (Heap.SameBut.update ..)⟩))
end
noncomputable def hshI (ns:List Int):Int:=reduceHash (Builtin.Tuple.tupleHashOf (ns.map hashInt))
noncomputable def kI (ns:List Int):List Key:=ns.map Sum.inl
theorem kI_V (ns:List Int):(kI ns).map kV=ns.map V.int:=by unfold kI; rw [List.map_map]; rfl
theorem ze3:∀ {a b:List Int},kI a=kI b->a=b
 | [],[],_=>rfl
 | [],_ :: _,h=>by cases h
 | _ :: _,[],h=>by cases h
 | x :: a,y :: b,h=>by
  unfold kI at h
  rw [List.map_cons,List.map_cons] at h
  injection h with h1 h2
  injection h1 with h1
  rw [h1,ze3 h2]
theorem zfN (P:Program) (w:World) (ns:List Int):(tupleKind (mixKind P w)).hash (kI ns)=hshI ns:=by
 show reduceHash (Builtin.Tuple.tupleHashOf ((kI ns).map (keyH w)))=_
 unfold kI hshI
 rw [List.map_map]
 rfl
theorem filter_one {α : Type} {l:List α} {f : α -> Int} (nd:(l.map f).Nodup) (x : α):(l.filter fun y=>f y == f x).length<=1:=by
 have h:=List.nodup_iff_count.mp nd (f x)
 rw [List.count,List.countP_map,List.countP_eq_length_filter] at h
 exact h
section
variable {X:Cx}
theorem zeb:CallR X (.builtin "len") (fun xs H Q=>∃ (a:Addr) (kvs:List (List Key×V)),xs = [V.ref a]/\H a=some (.dT kvs)/\Q (.int kvs.length) H):=by
 intro pins s σ H xs us Q I r h
 obtain ⟨a,kvs,rfl,ha,q⟩:=h
 obtain ⟨u,rfl,ru⟩:=zbq r
 cases ru
 obtain ⟨hz,lo,xs,kt,o,es,ep,ho,c,d,e,_⟩:=(show ObjOk X.prog X.w H s.heap a (.dT kvs) from I.hok a _ ha)
 have hl:=Paired.length kt
 have hl2:es.size=xs.length:=by rw [<- Array.length_toList,e,List.length_map]
 have hz2:sizeLine < 2 ^ 62:=by decide
 refine ed_len lo ho c d (by omega) ⟨.int _,H,I.tok _,⟨_,rfl⟩,?_⟩
 rw [show es.size=kvs.length by omega]
 exact q
theorem call_dictT:CallR X (.type "dict") (fun xs H Q=>∃ (a:Addr) (kvs:List (List Key×V)) (nss:List (List Int)),xs = [V.ref a]/\H a=some (.dT kvs)/\kvs.map (·.1)=nss.map kI/\nss ≠ []/\(nss.map hshI).Nodup/\∀ p,H p=none->Q (.ref p) (upd H p (.dT kvs))):=by
 intro pins s σ H xs us Q I r h
 obtain ⟨a,kvs,nss,rfl,ha,hk,hne,nd,q⟩:=h
 obtain ⟨u,rfl,ru⟩:=zbq r
 cases ru
 obtain ⟨hz,lo,xs,kt,o,es,ep,ho,c,d,e,nk⟩:=(show ObjOk X.prog X.w H s.heap a (.dT kvs) from I.hok a _ ha)
 have hl:=Paired.length kt
 have hl2:es.size=xs.length:=by rw [<- Array.length_toList,e,List.length_map]
 have hl3:kvs.length=nss.length:=by have:=congrArg List.length hk; rwa [List.length_map,List.length_map] at this
 have hpos:0 < es.size:=by
  rcases Nat.eq_zero_or_pos es.size with z | z
  ·exact absurd (List.length_eq_zero_iff.mp (by omega)) hne
  ·exact z
 have fst:xs.map (·.1)=kvs.map (·.1):=by
  have:∀ {l:List (List Key×V)} {m:List (List Key×Addr×Value)},KT H l m->m.map (·.1)=l.map (·.1):=by
   intro l m z
   induction z with
   | nil=>rfl
   | cons h _ ih=>rw [List.map_cons,List.map_cons,ih,h.1]
  exact this kt
 have mem:∀ e'∈es,∃ x∈xs,e'=entryOfKey (tupleKind (mixKind X.prog X.w)) x:=fun e' he=>by
  have:e'∈xs.map (entryOfKey (tupleKind (mixKind X.prog X.w))):=e ▸ Array.mem_toList_iff.mpr he
  obtain ⟨x,h1,h2⟩:=List.mem_map.mp this
  exact ⟨x,h1,h2.symm⟩
 have ndh:(es.toList.map (·.hash)).Nodup:=by
  rw [e,List.map_map]
  have:(DictEntry.hash ∘ entryOfKey (tupleKind (mixKind X.prog X.w)))=fun x:List Key×Addr×Value=>(tupleKind (mixKind X.prog X.w)).hash x.1:=rfl
  rw [this]
  have e2:xs.map (fun x=>(tupleKind (mixKind X.prog X.w)).hash x.1)=(xs.map (·.1)).map (tupleKind (mixKind X.prog X.w)).hash:=by rw [List.map_map]; rfl
  rw [e2,fst,hk,List.map_map]
  have e3:((tupleKind (mixKind X.prog X.w)).hash ∘ kI)=hshI:=funext fun ns=>zfN _ _ ns
  rw [e3]
  exact nd
 refine ed_copy lo ho c d hpos (by omega) (fun e' he => ?_) (fun e' he => ?_) fun h' od ep' h1 h2 h3 hs => ?_
 ·obtain ⟨x,hx,rfl⟩:=mem e' he
  obtain ⟨j,hj,ex⟩:=List.getElem_of_mem hx
  obtain ⟨p,_,_,e2,_⟩:=Paired.rev kt (List.getElem?_eq_getElem hj)
  rw [ex] at e2
  obtain ⟨_,its,_,ob,b1,b2,_⟩:=(show ObjOk X.prog X.w H s.heap _ (.tup _) from I.hok _ _ e2)
  exact ⟨x.2.1,ob,rfl,b1,b2⟩
 ·have:=filter_one ndh e'
  have e5:(es.filter fun x=>x.hash == e'.hash).size=(es.toList.filter fun x=>x.hash == e'.hash).length:=by rw [<- Array.toList_filter,Array.length_toList]
  rw [e5]
  omega
 ·refine ⟨.ref s.heap.objs.size,_,I.laid (a:=s.heap.objs.size) (o := .dT kvs) (h':=h') (t':=s.toks) (fun b q hq => ?_) (Nat.le_refl _) (show ObjOk X.prog X.w _ _ _ (.dT kvs) from ⟨hz,beq_eq_false_iff_ne.mpr (Ne.symm (Nat.ne_of_lt I.big)),xs,?_,od,es,ep',h1,h2,h3,e,nk⟩),rfl,q _ (I.hok.fresh (Nat.le_refl _))⟩
  ·exact (hs.2 b (Nat.ne_of_lt (Heap.lt_size hq))).trans (Heap.get?_push_of_some _ hq)
  ·first | exact kt | exact Paired.mapP kt fun _ _ z=>⟨z.1,by rw [zah (zai z.2.1 (I.hok.fresh (Nat.le_refl _)))]; exact z.2.1,z.2.2⟩
end
theorem zcA:((List.range 128).map fun (n:Nat)=>hshI (aheadOf (n:Int))).Nodup:=by decide +kernel
theorem steps_perm {C C':Combs} (p:C.Perm C') (n:Int):(stepsOf C n).Perm (stepsOf C' n):=by
 unfold stepsOf
 split
 ·exact List.Perm.refl _
 ·exact (p.filter _).map _
theorem any_perm {α : Type} {l l':List α} (p:l.Perm l') (f : α -> Bool):l.any f=l'.any f:=by
 rw [Bool.eq_iff_iff,List.any_eq_true,List.any_eq_true]
 exact ⟨fun ⟨x,h,e⟩=>⟨x,p.mem_iff.mp h,e⟩,fun ⟨x,h,e⟩=>⟨x,p.mem_iff.mpr h,e⟩⟩
theorem zbU {C C':Combs} (p:C.Perm C') (r:List Bool):nxtRow C r=nxtRow C' r:=by
 unfold nxtRow
 exact List.map_congr_left fun s _=>any_perm (steps_perm p _) _
theorem zbl {C C':Combs} (p:C.Perm C'):∀ k,rowAt C k=rowAt C' k
 | 0=>rfl
 | k + 1=>by
  show nxtRow C (rowAt C k)=nxtRow C' (rowAt C' k)
  rw [zbl p k,zbU p]
theorem zek {a b:Nat} (ha:a < 128) (hb:b < 128) (h:aheadOf (a:Int)=aheadOf (b:Int)):a=b:=by
 have h1:=zbp (n:=(a:Int)) (by omega) (by omega)
 have h2:=zbp (n:=(b:Int)) (by omega) (by omega)
 rw [h,h2] at h1
 omega
noncomputable def akey (s:Nat):List Key:=kI (aheadOf (s:Int))
theorem zcF {a b:Nat} (ha:a < 128) (hb:b < 128) (h:akey a=akey b):a=b:=zek ha hb (ze3 h)
theorem valV_mem {κ : Type} [DecidableEq κ] {kvs:List (κ × V)} {k : κ}:(valV kvs k).isSome=true ↔ k∈kvs.map (·.1):=by
 rw [<- za8,List.any_eq_true,List.mem_map]
 constructor
 ·rintro ⟨x,hx,e⟩; exact ⟨x,hx,of_decide_eq_true e⟩
 ·rintro ⟨x,hx,e⟩; exact ⟨x,hx,decide_eq_true e⟩
theorem zfj {κ : Type} [DecidableEq κ]:∀ {kvs:List (κ × V)} {i:Nat} {k : κ} {v:V},(kvs.map (·.1)).Nodup->kvs[i]?=some (k,v)->valV kvs k=some v
 | [],_,_,_,_,h=>by simp at h
 | p :: kvs,0,k,v,nd,h=>by
  simp at h
  subst h
  exact zaO rfl
 | p :: kvs,i + 1,k,v,nd,h=>by
  rw [List.map_cons,List.nodup_cons] at nd
  have h':kvs[i]?=some (k,v):=by simpa using h
  rw [zaL (fun z=>nd.1 (z ▸ List.mem_map.mpr ⟨(k,v),List.mem_of_getElem? h',rfl⟩))]
  exact zfj nd.2 h'
theorem zbn {ks:Combs} {s:Nat} (hs:s < 128) (g:GC ks):(goesOf ks (aheadOf (s:Int))).map (fun p=>(p.1,worth p.2))=stp ks s:=zdb (by omega) (by omega) g
theorem zdH {ks:Combs} {s:Nat} (hs:s < 128) (g:GC ks) {p:Str×List Int} (hp:p∈goesOf ks (aheadOf (s:Int))):(worth p.2).toNat < 128/\0<=worth p.2/\kI p.2=akey (worth p.2).toNat/\(p.1,worth p.2)∈stp ks s:=by
 have hm:(p.1,worth p.2)∈stp ks s:=by rw [<- zbn hs g]; exact List.mem_map.mpr ⟨p,hp,rfl⟩
 have hlt:=zcu g hs hm
 refine ⟨hlt.2,hlt.1,?_,hm⟩
 have:∃ a b,p.2=afterOf a b:=by
  unfold goesOf at hp
  split at hp
  ·rw [List.mem_singleton.mp hp]; exact ⟨_,_,rfl⟩
  ·obtain ⟨c,_,rfl⟩:=List.mem_map.mp hp; exact ⟨_,_,rfl⟩
 obtain ⟨a,b,e⟩:=this
 unfold akey
 rw [show (((worth p.2).toNat:Nat):Int)=worth p.2 by have:=hlt.1; show _=_; omega]
 congr 1
 rw [e]
 have hs:afterOf a b=((List.range 7).filter fun i=>decide (((i:Nat):Int)∈afterOf a b)).map fun i=>((i:Nat):Int):=by
  refine zbr ?_ ((zcH a b).imp fun h=>by omega) ?_
  ·rw [List.perm_ext_iff_of_nodup (zaW (zcH a b))]
   ·intro t
    simp only [List.mem_map,List.mem_filter,List.mem_range,decide_eq_true_eq]
    constructor
    ·intro h
     have:=zfc t h
     exact ⟨t.toNat,⟨by omega,by rwa [show ((t.toNat:Nat):Int)=t by omega]⟩,by omega⟩
    ·rintro ⟨i,⟨_,h⟩,rfl⟩
     exact h
   ·refine zaW ?_
    rw [List.pairwise_map]
    refine List.Pairwise.sublist List.filter_sublist (List.Pairwise.imp ?_ (List.pairwise_lt_range (n:=7)))
    intro a b h
    omega
  ·rw [List.pairwise_map]
   refine List.Pairwise.sublist List.filter_sublist (List.Pairwise.imp ?_ (List.pairwise_lt_range (n:=7)))
   intro a b h
   omega
 rw [hs]
 exact (ahead_worth _).symm
theorem forT_g {a:Addr} {o:Obj} {kvs:List (List Key×V)} {g:TG} {tb:TS} {D:Ends} {σ : St} {H:Hp} (Pv:Nat->St->Hp->Prop) (h0:Pv 0 σ H) (hk:∀ i σ H,Pv i σ H->H a=some (.frz o (.dT kvs)))
  (hs:∀ i k y b σ H,kvs[i]?=some (k,y)->H b=some (.tup (k.map kV))->Pv i σ H->g (.ref b) σ H fun σ2 H2=>tb { D with nx:=Pv (i + 1),ct:=Pv (i + 1),bk:=D.nx } σ2 H2) (hd:∀ σ H,Pv kvs.length σ H->D.nx σ H) :
  ∃ W:Nat->Nat->St->Hp->Prop,(∃ m,W 0 m σ H)/\∀ j m σ H,W j m σ H->((IttD a o kvs).stop j H/\D.nx σ H)\/((IttD a o kvs).go j H/\∃ N:St->Hp->Prop,(∀ σ' H',N σ' H'->∃ m',m' < m/\W (j + 1) m' σ' H') /\
   ∀ x H',(IttD a o kvs).yld j H x H'->g x σ H' fun σ2 H2=>tb { D with nx:=N,ct:=N,bk:=D.nx } σ2 H2):=by
 refine ⟨fun j m σ H=>m=kvs.length - j/\j<=kvs.length/\Pv j σ H,⟨_,rfl,Nat.zero_le _,h0⟩,?_⟩
 rintro j m σ H ⟨rfl,hj,p⟩
 by_cases hlt:j < kvs.length
 ·refine .inr ⟨⟨hk _ _ _ p,hlt⟩,Pv (j + 1),fun σ' H' p'=>⟨kvs.length - (j + 1),by omega,rfl,hlt,p'⟩,?_⟩
  rintro x H' ⟨rfl,k,y,b,e1,rfl,e3⟩
  exact hs j k y b σ _ e1 e3 p
 ·have e:j=kvs.length:=by omega
  subst e
  exact .inl ⟨⟨hk _ _ _ p,Nat.le_refl _⟩,hd σ H p⟩
theorem comp_x2 {K:W.Frag} {J:It} {Ok:Hp->Prop} {L:List V} {tf:TT} {te:TE} {D:Addr} {σ0 capv:St} {H1:Hp} {Q:VK} (hσ : σ0=none :: none :: capv) (G:Gives J Ok L) (hL:L.length<=sizeLine) (hD:H1 D=none) (hOk:∀ H,Same H1 H->Ok H) (X Y:Nat->V) (hXY:∀ (i:Nat) x,L[i]?=some x->∃ q,x = .ref q/\H1 q=some (.tup [X i,Y i])) (p:Nat->Bool) (Rel:Hp->Nat->V->Prop)
  (hm:∀ H H' i v,Same H H'->Rel H i v->Rel H' i v) (hw:∀ H i v l l',v ≠ .ref D->H D=some (.lst l)->Rel H i v->Rel (upd H D (.lst l')) i v)
  (ht:∀ i,i < L.length->∀ H R,Same H1 H->(∀ H',Same H H'->R (p i) H')->tf (some (X i) :: some (Y i) :: capv) H R)
  (he:∀ i,i < L.length->p i=true->∀ H R,Same H1 H->H D≠none->(∀ H' v,Same H H'->v ≠ .ref D->Rel H' i v->R v H')->te (some (X i) :: some (Y i) :: capv) H R)
  (hd:∀ H ys,Same H1 H->H D=some (.lst ys)->Paired (fun i y=>y ≠ .ref D/\Rel H i y) ((List.range L.length).filter p) ys->Q (.ref D) H) :
  CompW J D σ0 H1 (gTup K 2 (gCons (gName 0) (gCons (gName 1) gNil))) tf te Q:=by
 subst hσ
 refine zf1 G (fun i xs σ H=>(∃ o1 o2,σ = o1 :: o2 :: capv)/\Same H1 H/\H D=some (.lst xs)/\Paired (fun i y=>y ≠ .ref D/\Rel H i y) ((List.range i).filter p) xs) ⟨⟨none,none,rfl⟩,Same.new hD,zac,.nil⟩ (fun i xs σ H _ h=>hOk H h.2.1) ?_ ?_
 ·rintro i x xs σ H hi hx ⟨⟨o1,o2,rfl⟩,s,e,hr⟩
  obtain ⟨qx,rfl,hqx⟩:=hXY i x hx
  refine ⟨qx,[X i,Y i],rfl,SqT.of (s _ _ hqx),rfl,_,_,rfl,_,_,rfl,rfl,?_⟩
  show tf (some (X i) :: some (Y i) :: capv) H _
  refine ht i hi H _ s fun H' s' => ?_
  have hxl:xs.length<=i:=by
   rw [<- Paired.length hr]
   exact Nat.le_trans (List.length_filter_le _ _) (by rw [List.length_range]; omega)
  have efil:(List.range (i + 1)).filter p=(List.range i).filter p ++ if p i=true then [i] else []:=by
   rw [List.range_succ,List.filter_append]
   congr 1
   rw [List.filter_cons,List.filter_nil]
  cases hp:p i with
  | true =>
   rw [if_pos rfl]
   refine he i hi hp H' _ (s.trans s') (by rw [s' _ _ e]; exact nofun) fun H2 v s2 hv rv => ?_
   have e2:=s2 _ _ (s' _ _ e)
   refine CNext.of hi hL e2 hxl ⟨⟨_,_,rfl⟩,((s.trans s').trans s2).put hD,zac,?_⟩
   rw [efil,if_pos hp]
   exact Paired.snoc (Paired.mapP hr fun j y z=>⟨z.1,hw _ _ _ _ _ z.1 e2 (hm _ _ _ _ (s'.trans s2) z.2)⟩) ⟨hv,hw _ _ _ _ _ hv e2 rv⟩
  | false =>
   rw [if_neg Bool.false_ne_true]
   refine CSkip.of (xs:=xs) hi ⟨⟨_,_,rfl⟩,s.trans s',s' _ _ e,?_⟩
   rw [efil,if_neg (by rw [hp]; exact Bool.false_ne_true),List.append_nil]
   exact Paired.mapP hr fun j y z=>⟨z.1,hm _ _ _ _ s' z.2⟩
 ·rintro xs σ H ⟨_,s,e,hr⟩
  exact hd H xs s e hr
theorem comp_i2 {K:W.Frag} {J:It} {Ok:Hp->Prop} {L:List V} {tf:TT} {te:TE} {D:Addr} {σ0 capv:St} {H1:Hp} {Q:VK} (hσ : σ0=none :: none :: capv) (G:Gives J Ok L) (hL:L.length<=sizeLine) (hD:H1 D=none) (hOk:∀ H,Same H1 H->Ok H) (X Y:Nat->V) (hXY:∀ (i:Nat) x,L[i]?=some x->∃ q,x = .ref q/\H1 q=some (.tup [X i,Y i])) (p:Nat->Bool) (F:Nat->V) (hF:∀ i,i < L.length->p i=true->F i ≠ .ref D)
  (ht:∀ i,i < L.length->∀ H R,Same H1 H->(∀ H',Same H H'->R (p i) H')->tf (some (X i) :: some (Y i) :: capv) H R)
  (he:∀ i,i < L.length->p i=true->∀ H R,Same H1 H->(∀ H',Same H H'->R (F i) H')->te (some (X i) :: some (Y i) :: capv) H R)
  (hd:∀ H,Same H1 H->H D=some (.lst (((List.range L.length).filter p).map F))->Q (.ref D) H) :
  CompW J D σ0 H1 (gTup K 2 (gCons (gName 0) (gCons (gName 1) gNil))) tf te Q:=by
 refine comp_x2 hσ G hL hD hOk X Y hXY p (fun _ i v=>v=F i) (fun _ _ _ _ _ h=>h) (fun _ _ _ _ _ _ _ h=>h) ht (fun i hi hp H R s _ h=>he i hi hp H R s fun H' s'=>h H' _ s' (hF i hi hp) rfl) fun H ys s e pr=>hd H s ?_
 rw [e]
 have:∀ {l:List Nat} {m:List V},Paired (fun i y=>y ≠ .ref D/\y=F i) l m->m=l.map F:=by
  intro l m q
  induction q with
  | nil=>rfl
  | cons h _ ih=>rw [List.map_cons,<- ih,h.2]
 rw [this pr]
theorem GoesR.nth {H:Hp} {vs:List V} {gs:List (Str×List Int)} (r:GoesR H vs gs) {i:Nat} {x:V} (h:vs[i]?=some x):∃ q t,x = .ref q/\H q=some (.tup [.str (gs.getD i ("",[])).1,.ref t])/\H t=some (.tup ((gs.getD i ("",[])).2.map V.int))/\i < gs.length:=by
 have hi:i < gs.length:=by rw [<- r.length]; exact (List.getElem?_eq_some_iff.mp h).1
 obtain ⟨q,t,e1,e2,e3⟩:=r.get (List.getElem?_eq_getElem hi)
 rw [h] at e1
 cases e1
 refine ⟨q,t,rfl,?_,?_,hi⟩
 ·rw [List.getD_eq_getElem?_getD,List.getElem?_eq_getElem hi]; exact e2
 ·rw [List.getD_eq_getElem?_getD,List.getElem?_eq_getElem hi]; exact e3
noncomputable def tupY (H:Hp) (vs:List V) (i:Nat):V:=match vs[i]? with
 | some (.ref q)=>match H q with
  | some (.tup [_,y])=>y
  | _ => .non
 | _ => .non
theorem zfk {H:Hp} {vs:List V} {i:Nat} {q:Addr} {x y:V} (h1:vs[i]?=some (.ref q)) (h2:H q=some (.tup [x,y])):tupY H vs i=y:=by
 unfold tupY
 rw [h1]
 simp only [h2]
theorem pg_tup' {X:Cx} {pos:Pos} (K:W.Frag) (hK:X.K=K) {es:List Expr} {k:Nat} {t:TGs} {n:Nat} (hc:X.calm=true) (h:PGs X es t)
  (hn:(assignEach es X.env).length=n:=by rfl) (hst:(assignEach es X.env).findIdx? (·.1)=none:=by rfl):PG X (.Tuple es k pos) (gTup K n t):=by
 subst hK
 exact zfy hc h hn hst
noncomputable def ind (b:Bool):Nat:=if b=true then 1 else 0
structure Tile (sp:Nat) (al ta:Nat->Nat->Bool):Prop where
 pos:1<=sp
 pa:∀ k d,al (k + sp) d=al k d
 pt:∀ k d,ta (k + sp) d=ta k d
 la:∀ k d,7<=d->al k d=false
 lt:∀ k d,8<=d->ta k d=false
 one:∀ k,ind (al k 0) + ind (ta k 0)=1
 step:∀ k d,ind (al (k + 1) d)=ind (al k (d + 1)) + ind (ta k (d + 1))
namespace Tile
variable {sp:Nat} {al ta:Nat->Nat->Bool}
end Tile
noncomputable def tkOf (C:Combs) (x:Str):List Int:=(cGet C x).getD []
noncomputable def laid (nm:Nat->Str) (sp:Nat):List Nat:=(List.range sp).filter fun j=>decide (nm j≠Str.ofString "")
theorem KindsL.getG {G:Addr->Prop} {H:Hp}:∀ {vs:List V} {ks:List (Str×List Int)} {i:Nat} {v:V},KindsL G H vs ks->vs[i]?=some v->∃ k q t,ks[i]?=some k/\v = .ref q/\H q=some (.lst [.str k.1,.ref t])/\H t=some (.lst (k.2.map V.int))/\G t
 | [],[],_,_,_,e=>by simp at e
 | _ :: _,k :: _,0,_,⟨⟨q,t,e,h1,h2,g1,g2⟩,_⟩,z=>by
  simp at z
  subst z
  exact ⟨k,q,t,rfl,e,h1,h2,g2⟩
 | _ :: _,_ :: _,i + 1,_,⟨_,b⟩,z=>by
  obtain ⟨k,q,t,h⟩:=KindsL.getG (i:=i) b (by simpa using z)
  exact ⟨k,q,t,by simpa using h⟩
 | [],_ :: _,_,_,x,_=>x.elim
 | _ :: _,[],_,_,x,_=>x.elim
noncomputable abbrev gallopS:Bool->Keyed->Array Keyed->Nat->Nat->Nat->StateT SortSt Sem (Option Nat):=sortPriv% PySem.Builtin.gallop
structure Ranks (prog:Program) (w:World) (A:Around) (E:Value->Shared->Prop) (s:Shared) (kd:SortKind) (S:Keyed->Prop) (rk:Keyed->Int):Prop where
 ask:∀ {x y:Keyed} {st:SortSt} {Q:Option Bool->SortSt->Prop},S x->S y->kindOf st=kd->Q (some (decide (rk x < rk y))) st->wpS (model prog w) A E s (lt' x y) Q st
section
variable {prog:Program} {w:World} {A:Around} {E:Value->Shared->Prop} {s:Shared} {kd:SortKind} {S:Keyed->Prop} {rk:Keyed->Int}
noncomputable def kAt (rk:Keyed->Int) (arr:Array Keyed) (i:Nat):Int:=match arr[i]? with
 | some x=>rk x
 | none=>0
theorem zaS {arr:Array Keyed} {i:Nat} (h:i < arr.size):kAt rk arr i=rk arr[i]:=by unfold kAt; rw [Array.getElem?_eq_getElem h]
theorem zay {arr:Array Keyed} {i:Nat} {Q:Keyed->SortSt->Prop} {st:SortSt} (h:i < arr.size) (q:Q arr[i] st):wpS (model prog w) A E s (elem' arr i) Q st:=by
 rw [elem'_eq,Array.getElem?_eq_getElem h]
 exact wpS_pure q
noncomputable def Up2 (rk:Keyed->Int) (arr:Array Keyed) (lo hi:Nat):Prop:=∀ i j,lo<=i->i<=j->j < hi->kAt rk arr i<=kAt rk arr j
theorem zbo (C:Ranks prog w A E s kd S rk) {left:Bool} {key:Keyed} {arr:Array Keyed} {b n hint:Nat} {Q:Option Nat->SortSt->Prop} {st:SortSt} (hk:S key) (hS:∀ i (h:i < arr.size),b<=i->i < b + n->S arr[i]) (sz:b + n<=arr.size) (hh:hint < n) (up:Up2 rk arr b (b + n)) (hst:kindOf st=kd)
  (q:∀ k,k<=n->(∀ i,i < k->(if left=true then kAt rk arr (b + i) < rk key else kAt rk arr (b + i)<=rk key))->(∀ i,k<=i->i < n->(if left=true then rk key<=kAt rk arr (b + i) else rk key < kAt rk arr (b + i)))->Q (some k) st) :
  wpS (model prog w) A E s (gallopS left key arr b n hint) Q st:=by
 obtain ⟨P,hP⟩:∃ P:Nat->Bool,P=fun i=>if left=true then decide (kAt rk arr (b + i) < rk key) else decide (kAt rk arr (b + i)<=rk key):=⟨_,rfl⟩
 have mono:∀ i j,i<=j->j < n->P j=true->P i=true:=fun i j hij hj h=>by
  have:=up (b + i) (b + j) (by omega) (by omega) (by omega)
  rw [hP] at h ⊢
  dsimp only at h ⊢
  cases left
  ·simp at h ⊢; omega
  ·simp at h ⊢; omega
 have q':∀ k,k<=n->(∀ i,i < k->P i=true)->(∀ i,k<=i->i < n->P i=false)->Q (some k) st:=fun k h1 h2 h3=>by
  refine q k h1 (fun i hi => ?_) (fun i h4 h5 => ?_)
  ·have:=h2 i hi
   rw [hP] at this
   cases left <;> simpa using this
  ·have:=h3 i h4 h5
   rw [hP] at this
   cases left <;> simpa using this
 have bey:∀ i,i < n->∀ (Q':Option Bool->SortSt->Prop),Q' (some (P i)) st->wpS (model prog w) A E s (do
   let x <- elem' arr (b + i)
   if left=true then lt' x key else do
    let r <- lt' key x
    pure (Option.map (fun x => !x) r)) Q' st:=fun i hi Q' h=>by
  refine wpS_bind (zay (by omega) ?_)
  have hSi:=hS (b + i) (by omega) (by omega) (by omega)
  have e:=zaS (rk:=rk) (show b + i < arr.size by omega)
  cases hl:left with
  | true =>
   rw [if_pos rfl]
   refine C.ask hSi hk hst ?_
   rw [hP,hl] at h
   simpa [e] using h
  | false =>
   rw [if_neg Bool.false_ne_true]
   refine wpS_bind (C.ask hk hSi hst (wpS_pure ?_))
   rw [hP,hl] at h
   have e2:(!decide (rk key < rk arr[b + i]))=decide (kAt rk arr (b + i)<=rk key):=by
    rw [e,<- decide_not,decide_eq_decide]; omega
   show Q' (some (!decide (rk key < rk arr[b + i]))) st
   rw [e2]
   simpa using h
 have bin:∀ lo hi,lo<=hi->hi<=n->(∀ i,i < lo->P i=true)->(∀ i,hi<=i->i < n->P i=false)->∀ (F:Nat->Option (Option Nat)×Nat×Nat->StateT SortSt Sem (ForInStep (Option (Option Nat)×Nat×Nat))),
   (∀ x lo hi,lo < hi->hi<=n->∀ R:ForInStep (Option (Option Nat)×Nat×Nat)->SortSt->Prop,R (.yield (none,if P (lo + (hi - lo) / 2)=true then (lo + (hi - lo) / 2 + 1,hi) else (lo,lo + (hi - lo) / 2))) st->wpS (model prog w) A E s (F x (none,lo,hi)) R st) ->
   (∀ x lo hi,hi<=lo->∀ R:ForInStep (Option (Option Nat)×Nat×Nat)->SortSt->Prop,R (.done (none,lo,hi)) st->wpS (model prog w) A E s (F x (none,lo,hi)) R st) ->
   wpS (model prog w) A E s (forIn [:n] (none,lo,hi) F) (fun c st'=>st'=st/\∃ k,c.1=none/\c.2.2=k/\k<=n/\(∀ i,i < k->P i=true)/\(∀ i,k<=i->i < n->P i=false)) st:=fun lo hi h1 h2 h3 h4 F f1 f2=>by
  refine wpS_forRange (I:=fun x c st'=>st'=st/\∃ lo hi,c=(none,lo,hi)/\lo<=hi/\hi<=n/\hi - lo + x<=n/\(∀ i,i < lo->P i=true)/\(∀ i,hi<=i->i < n->P i=false)) ?_ ?_ ⟨rfl,lo,hi,rfl,h1,h2,by omega,h3,h4⟩
  ·rintro x c st' _ hx ⟨rfl,lo,hi,rfl,a1,a2,a3,a4,a5⟩
   by_cases e:lo < hi
   ·refine f1 x lo hi e a2 _ ?_
    dsimp only
    cases hm:P (lo + (hi - lo) / 2) with
    | true=>exact ⟨rfl,lo + (hi - lo) / 2 + 1,hi,rfl,by omega,a2,by omega,fun i hi'=>mono i (lo + (hi - lo) / 2) (by omega) (by omega) hm,a5⟩
    | false =>
     refine ⟨rfl,lo,lo + (hi - lo) / 2,rfl,by omega,by omega,by omega,a4,fun i h6 h7 => ?_⟩
     cases hz:P i with
     | false=>rfl
     | true=>rw [mono _ i h6 h7 hz] at hm; cases hm
   ·exact f2 x lo hi (by omega) _ ⟨rfl,hi,rfl,rfl,a2,fun i hi'=>a4 i (by omega),a5⟩
  ·rintro c st' ⟨rfl,lo,hi,rfl,a1,a2,a3,a4,a5⟩
   exact ⟨rfl,hi,rfl,rfl,a2,fun i hi'=>a4 i (by omega),a5⟩
 refine wpS_bind (bey hint hh _ ?_)
 dsimp only
 cases hr:P hint with
 | true =>
  rw [if_pos rfl]
  refine wpS_bind (wpS_mono (wpS_forRange (I:=fun x c st'=>st'=st/\∃ la off,c=(none,la,off)/\la < off/\x + 1<=off/\hint + la < n/\P (hint + la)=true) (Q:=fun c st'=>st'=st/\∃ la off,c=(none,la,off)/\la < off/\hint + la < n/\P (hint + la)=true/\(n - hint<=off\/(off < n - hint/\P (hint + off)=false))) ?step ?fin ⟨rfl,0,1,rfl,by omega,by omega,by omega,hr⟩) ?post)
  case fin =>
   rintro c st' ⟨rfl,la,off,rfl,a1,a2,a3,a4⟩
   exact ⟨rfl,la,off,rfl,a1,a3,a4,.inl (by omega)⟩
  case step =>
   rintro x c st' _ hx ⟨rfl,la,off,rfl,a1,a2,a3,a4⟩
   dsimp only
   by_cases e:off>=n - hint
   ·rw [if_pos e]
    exact wpS_pure ⟨rfl,la,off,rfl,a1,a3,a4,.inl e⟩
   ·rw [if_neg e]
    refine wpS_bind (bey (hint + off) (by omega) _ ?_)
    dsimp only
    cases hm:P (hint + off) with
    | true =>
     rw [if_neg (by decide)]
     exact wpS_pure ⟨rfl,off,2 * off + 1,rfl,by omega,by omega,by omega,hm⟩
    | false =>
     rw [if_pos (by decide)]
     exact wpS_pure ⟨rfl,la,off,rfl,a1,a3,a4,.inr ⟨by omega,hm⟩⟩
  case post =>
   rintro c st' ⟨rfl,la,off,rfl,a1,a3,a4,a5⟩
   dsimp only
   refine wpS_bind (wpS_mono (bin (hint + la + 1) (hint + min off (n - hint)) (by omega) (by omega) (fun i hi=>mono i (hint + la) (by omega) a3 a4) (fun i h6 h7 => ?_) _ (fun x lo hi h1 h2 R hR => ?_) fun x lo hi h1 R hR => ?_) (by rintro ⟨r,lo',hi'⟩ st2 ⟨rfl,k,e1,e2,h1,h2,h3⟩; dsimp only at e1 e2 ⊢; subst e1 e2; exact wpS_pure (q' _ h1 h2 h3)))
   ·rcases a5 with z | ⟨z1,z2⟩
    ·omega
    ·cases hz:P i with
     | false=>rfl
     | true=>rw [mono (hint + off) i (by omega) h7 hz] at z2; cases z2
   ·dsimp only
    rw [if_neg (by omega)]
    refine wpS_bind (bey _ (by omega) _ ?_)
    dsimp only
    cases hm:P (lo + (hi - lo) / 2) with
    | true=>rw [if_pos rfl]; rw [hm,if_pos rfl] at hR; exact wpS_pure hR
    | false=>rw [if_neg Bool.false_ne_true]; rw [hm,if_neg Bool.false_ne_true] at hR; exact wpS_pure hR
   ·dsimp only
    rw [if_pos h1]
    exact wpS_pure hR
 | false =>
  rw [if_neg Bool.false_ne_true]
  refine wpS_bind (wpS_mono (wpS_forRange (I:=fun x c st'=>st'=st/\∃ la off,c=(none,la,off)/\la < off/\x + 1<=off/\la<=hint/\P (hint - la)=false) (Q:=fun c st'=>st'=st/\∃ la off,c=(none,la,off)/\la < off/\la<=hint/\P (hint - la)=false/\(hint + 1<=off\/(off < hint + 1/\P (hint - off)=true))) ?step ?fin ⟨rfl,0,1,rfl,by omega,by omega,by omega,hr⟩) ?post)
  case fin =>
   rintro c st' ⟨rfl,la,off,rfl,a1,a2,a3,a4⟩
   exact ⟨rfl,la,off,rfl,a1,a3,a4,.inl (by omega)⟩
  case step =>
   rintro x c st' _ hx ⟨rfl,la,off,rfl,a1,a2,a3,a4⟩
   dsimp only
   by_cases e:off>=hint + 1
   ·rw [if_pos e]
    exact wpS_pure ⟨rfl,la,off,rfl,a1,a3,a4,.inl e⟩
   ·rw [if_neg e]
    refine wpS_bind (bey (hint - off) (by omega) _ ?_)
    dsimp only
    cases hm:P (hint - off) with
    | true =>
     rw [if_pos rfl]
     exact wpS_pure ⟨rfl,la,off,rfl,a1,a3,a4,.inr ⟨by omega,hm⟩⟩
    | false =>
     rw [if_neg Bool.false_ne_true]
     exact wpS_pure ⟨rfl,off,2 * off + 1,rfl,by omega,by omega,by omega,hm⟩
  case post =>
   rintro c st' ⟨rfl,la,off,rfl,a1,a3,a4,a5⟩
   dsimp only
   refine wpS_bind (wpS_mono (bin (hint + 1 - min off (hint + 1)) (hint - la) (by omega) (by omega) (fun i hi => ?_) (fun i h6 h7 => ?_) _ (fun x lo hi h1 h2 R hR => ?_) fun x lo hi h1 R hR => ?_) (by rintro ⟨r,lo',hi'⟩ st2 ⟨rfl,k,e1,e2,h1,h2,h3⟩; dsimp only at e1 e2 ⊢; subst e1 e2; exact wpS_pure (q' _ h1 h2 h3)))
   ·rcases a5 with z | ⟨z1,z2⟩
    ·omega
    ·exact mono i (hint - off) (by omega) (by omega) z2
   ·cases hz:P i with
    | false=>rfl
    | true=>rw [mono (hint - la) i h6 h7 hz] at a4; cases a4
   ·dsimp only
    rw [if_neg (by omega)]
    refine wpS_bind (bey _ (by omega) _ ?_)
    dsimp only
    cases hm:P (lo + (hi - lo) / 2) with
    | true=>rw [if_pos rfl]; rw [hm,if_pos rfl] at hR; exact wpS_pure hR
    | false=>rw [if_neg Bool.false_ne_true]; rw [hm,if_neg Bool.false_ne_true] at hR; exact wpS_pure hR
   ·dsimp only
    rw [if_pos h1]
    exact wpS_pure hR
end
noncomputable abbrev Srt (rk:Keyed->Int) (l:List Keyed):Prop:=l.Pairwise fun x y=>rk x<=rk y
structure MI (rk:Keyed->Int) (la lb out:List Keyed) (ia ib:Nat):Prop where
 perm:out.Perm (la.take ia ++ lb.take ib)
 srt:Srt rk out
 low:∀ x∈out,(∀ y∈la.drop ia,rk x<=rk y)/\∀ y∈lb.drop ib,rk x<=rk y
noncomputable def MFin (rk:Keyed->Int) (la lb res:List Keyed):Prop:=res.Perm (la ++ lb)/\Srt rk res
section
variable {rk:Keyed->Int} {la lb out:List Keyed} {ia ib:Nat}
theorem zaU {l:List Keyed} {i:Nat} (h:i < l.length):l.drop i=l[i] :: l.drop (i + 1):=List.drop_eq_getElem_cons h
theorem zdt {l:List Keyed} (s:Srt rk l) {i:Nat} (h:i < l.length):∀ y∈l.drop (i + 1),rk l[i]<=rk y:=by
 have:=List.Pairwise.sublist (List.drop_sublist i l) s
 rw [zaU h] at this
 exact (List.pairwise_cons.mp this).1
theorem MI.pushA (m:MI rk la lb out ia ib) (sa:Srt rk la) (h:ia < la.length) (hb:∀ y∈lb.drop ib,rk la[ia]<=rk y):MI rk la lb (out ++ [la[ia]]) (ia + 1) ib:=by
 have hd:=zaU h
 refine ⟨?_,?_,fun x hx => ?_⟩
 ·rw [List.take_succ_eq_append_getElem h]
  have:=m.perm.append_right [la[ia]]
  refine this.trans ?_
  rw [List.append_assoc,List.append_assoc]
  exact List.Perm.append_left _ List.perm_append_comm
 ·refine List.pairwise_append.mpr ⟨m.srt,by simp,fun x hx y hy => ?_⟩
  rw [List.mem_singleton.mp hy]
  exact (m.low x hx).1 _ (by rw [hd]; exact List.mem_cons_self)
 ·rcases List.mem_append.mp hx with z | z
  ·exact ⟨fun y hy=>(m.low x z).1 y (by rw [hd]; exact List.mem_cons_of_mem _ hy),(m.low x z).2⟩
  ·rw [List.mem_singleton.mp z]
   exact ⟨zdt sa h,hb⟩
theorem MI.pushB (m:MI rk la lb out ia ib) (sb:Srt rk lb) (h:ib < lb.length) (ha:∀ y∈la.drop ia,rk lb[ib]<=rk y):MI rk la lb (out ++ [lb[ib]]) ia (ib + 1):=by
 have hd:=zaU h
 refine ⟨?_,?_,fun x hx => ?_⟩
 ·rw [List.take_succ_eq_append_getElem h]
  have:=m.perm.append_right [lb[ib]]
  rwa [List.append_assoc] at this
 ·refine List.pairwise_append.mpr ⟨m.srt,by simp,fun x hx y hy => ?_⟩
  rw [List.mem_singleton.mp hy]
  exact (m.low x hx).2 _ (by rw [hd]; exact List.mem_cons_self)
 ·rcases List.mem_append.mp hx with z | z
  ·exact ⟨(m.low x z).1,fun y hy=>(m.low x z).2 y (by rw [hd]; exact List.mem_cons_of_mem _ hy)⟩
  ·rw [List.mem_singleton.mp z]
   exact ⟨ha,zdt sb h⟩
theorem MI.moreA (sa:Srt rk la):∀ {k ia:Nat} {out:List Keyed},MI rk la lb out ia ib->ia + k<=la.length->(∀ i (h:i < la.length),ia<=i->i < ia + k->∀ y∈lb.drop ib,rk la[i]<=rk y)->MI rk la lb (out ++ (la.drop ia).take k) (ia + k) ib
 | 0,ia,out,m,_,_=>by simpa using m
 | k + 1,ia,out,m,h,hy=>by
  have m1:=m.pushA sa (by omega) (hy ia (by omega) (Nat.le_refl _) (by omega))
  have m2:=MI.moreA sa (k:=k) m1 (by omega) fun i hi h1 h2=>hy i hi (by omega) (by omega)
  rw [zaU (show ia < la.length by omega),List.take_succ_cons]
  rw [List.append_assoc,List.singleton_append,show ia + 1 + k=ia + (k + 1) by omega] at m2
  exact m2
theorem MI.moreB (sb:Srt rk lb):∀ {k ib:Nat} {out:List Keyed},MI rk la lb out ia ib->ib + k<=lb.length->(∀ i (h:i < lb.length),ib<=i->i < ib + k->∀ y∈la.drop ia,rk lb[i]<=rk y)->MI rk la lb (out ++ (lb.drop ib).take k) ia (ib + k)
 | 0,ib,out,m,_,_=>by simpa using m
 | k + 1,ib,out,m,h,hy=>by
  have m1:=m.pushB sb (by omega) (hy ib (by omega) (Nat.le_refl _) (by omega))
  have m2:=MI.moreB sb (k:=k) m1 (by omega) fun i hi h1 h2=>hy i hi (by omega) (by omega)
  rw [zaU (show ib < lb.length by omega),List.take_succ_cons]
  rw [List.append_assoc,List.singleton_append,show ib + 1 + k=ib + (k + 1) by omega] at m2
  exact m2
theorem MI.restA (m:MI rk la lb out ia lb.length) (sa:Srt rk la):MFin rk la lb (out ++ la.drop ia):=by
 refine ⟨?_,List.pairwise_append.mpr ⟨m.srt,List.Pairwise.sublist (List.drop_sublist _ _) sa,fun x hx y hy=>(m.low x hx).1 y hy⟩⟩
 have:=m.perm.append_right (la.drop ia)
 rw [List.take_length] at this
 refine this.trans ?_
 rw [List.append_assoc]
 refine (List.Perm.append_left _ List.perm_append_comm).trans ?_
 rw [<- List.append_assoc,List.take_append_drop]
theorem MI.restB (m:MI rk la lb out la.length ib) (sb:Srt rk lb):MFin rk la lb (out ++ lb.drop ib):=by
 refine ⟨?_,List.pairwise_append.mpr ⟨m.srt,List.Pairwise.sublist (List.drop_sublist _ _) sb,fun x hx y hy=>(m.low x hx).2 y hy⟩⟩
 have:=m.perm.append_right (lb.drop ib)
 rw [List.take_length,List.append_assoc,List.take_append_drop] at this
 exact this
theorem MI.restBA (m:MI rk la lb out ia ib) (sa:Srt rk la) (sb:Srt rk lb) (h:∀ x∈lb.drop ib,∀ y∈la.drop ia,rk x<=rk y):MFin rk la lb (out ++ lb.drop ib ++ la.drop ia):=by
 refine ⟨?_,List.pairwise_append.mpr ⟨List.pairwise_append.mpr ⟨m.srt,List.Pairwise.sublist (List.drop_sublist _ _) sb,fun x hx y hy=>(m.low x hx).2 y hy⟩,List.Pairwise.sublist (List.drop_sublist _ _) sa,fun x hx y hy => ?_⟩⟩
 ·have:=m.perm.append_right (lb.drop ib ++ la.drop ia)
  rw [<- List.append_assoc] at this
  refine this.trans ?_
  rw [List.append_assoc,<- List.append_assoc (lb.take ib),List.take_append_drop]
  refine (List.Perm.append_left _ List.perm_append_comm).trans ?_
  rw [<- List.append_assoc,List.take_append_drop]
 ·rcases List.mem_append.mp hx with z | z
  ·exact (m.low x z).1 y hy
  ·exact h x z y hy
end
theorem zaE (a:Array Keyed) (i j:Nat):(a.extract i j).toList=(a.toList.drop i).take (j - i):=by simp
theorem zaG (a:Array Keyed) (i:Nat):(a.extract i).toList=a.toList.drop i:=by
 rw [zaE]
 exact List.take_of_length_le (by simp)
noncomputable def Like (st st':SortSt):Prop:=kindOf st'=kindOf st/\arrOf st'=arrOf st/\pendingOf st'=pendingOf st/\failedOf st'=failedOf st
theorem Like.refl (st:SortSt):Like st st:=⟨rfl,rfl,rfl,rfl⟩
noncomputable abbrev mergeLoS:Array Keyed->Array Keyed->StateT SortSt Sem (Array Keyed):=sortPriv% PySem.Builtin.mergeLo
theorem zf5 {rk:Keyed->Int} {arr:Array Keyed} (s:Srt rk arr.toList) {lo hi:Nat} (h:hi<=arr.size):Up2 rk arr lo hi:=fun i j _ hij hj=>by
 rw [zaS (show i < arr.size by omega),zaS (show j < arr.size by omega)]
 by_cases e:i=j
 ·subst e; exact Int.le_refl _
 ·have:=List.pairwise_iff_getElem.mp s i j (by simpa using (show i < arr.size by omega)) (by simpa using (show j < arr.size by omega)) (by omega)
  simpa using this
theorem zam (a:Array Keyed) {i:Nat} (h:i < a.size):a.toList[i]'(by simpa using h)=a[i]:=by simp
theorem zbV {l:List Keyed} {i:Nat} {y:Keyed} (h:y∈l.drop i):∃ j,∃ hj:j < l.length,i<=j/\l[j]=y:=by
 obtain ⟨j,hj,e⟩:=List.getElem_of_mem h
 rw [List.length_drop] at hj
 rw [List.getElem_drop] at e
 exact ⟨i + j,by omega,by omega,e⟩
theorem zcC {rk:Keyed->Int} {l:List Keyed} (s:Srt rk l) {i:Nat} (h:i < l.length):∀ y∈l.drop i,rk l[i]<=rk y:=fun y hy=>by
 rw [zaU h] at hy
 rcases List.mem_cons.mp hy with rfl | z
 ·exact Int.le_refl _
 ·exact zdt s h y z
theorem zaj {M:Model} {A:Around} {E:Value->Shared->Prop} {s:Shared} {σ α : Type} {c:Prop} [Decidable c] {x y:StateT σ Sem α} {Q : α -> σ -> Prop} {st : σ} (h1:c->wpS M A E s x Q st) (h2:¬ c->wpS M A E s y Q st):wpS M A E s (if c then x else y) Q st:=by
 by_cases h:c
 ·rw [if_pos h]; exact h1 h
 ·rw [if_neg h]; exact h2 h
theorem zez {M:Model} {A:Around} {E:Value->Shared->Prop} {s:Shared} {σ α : Type} {c:Prop} [Decidable c] {x y:StateT σ Sem α} {Q : α -> σ -> Prop} {st : σ} (h2:¬ c->wpS M A E s y Q st) (h1:c->wpS M A E s x Q st):wpS M A E s (if c then x else y) Q st:=zaj h1 h2
theorem zfn {X G:Prop} (k:X->G) (h:X):G:=k h
theorem za1 {M:Model} {A:Around} {E:Value->Shared->Prop} {s:Shared} {f:SortSt->SortSt} {Q:PUnit->SortSt->Prop} {st:SortSt} (hf:Like st (f st)) (h:∀ st',Like st st'->Q ⟨⟩ st'):wpS M A E s (modify f:StateT SortSt Sem PUnit) Q st:=wpS_modify (h _ hf)
theorem Like.trans {a b c:SortSt} (h:Like a b) (k:Like b c):Like a c:=⟨k.1.trans h.1,k.2.1.trans h.2.1,k.2.2.1.trans h.2.2.1,k.2.2.2.trans h.2.2.2⟩
section
variable {prog:Program} {w:World} {A:Around} {E:Value->Shared->Prop} {s:Shared} {kd:SortKind} {S:Keyed->Prop} {rk:Keyed->Int}
theorem mergeLo_ok (C:Ranks prog w A E s kd S rk) {a b:Array Keyed} {Q:Array Keyed->SortSt->Prop} {st:SortSt} (ha:0 < a.size) (hb:0 < b.size) (sa:Srt rk a.toList) (sb:Srt rk b.toList) (Sa:∀ i (h:i < a.size),S a[i]) (Sb:∀ i (h:i < b.size),S b[i]) (h0:∀ y∈a.toList,rk b[0]<=rk y) (hl:∀ y∈b.toList,rk y<=rk (a[a.size - 1]'(by omega))) (hst:kindOf st=kd)
  (q:∀ res st',Like st st'->MFin rk a.toList b.toList res.toList->Q res st'):wpS (model prog w) A E s (mergeLoS a b) Q st:=by
 have la:a.toList.length=a.size:=Array.length_toList
 have lb:b.toList.length=b.size:=Array.length_toList
 have m0:MI rk a.toList b.toList [b[0]] 0 1:=by
  have mm:MI rk a.toList b.toList [] 0 0:=⟨by simp,List.Pairwise.nil,fun x hx=>by cases hx⟩
  have:=mm.pushB sb (by omega) (by rw [List.drop_zero,zam b hb]; exact h0)
  rw [zam b hb] at this
  exact this
 have lastA:∀ ib,∀ x∈b.toList.drop ib,∀ ia,ia + 1=a.size->∀ y∈a.toList.drop ia,rk x<=rk y:=fun ib x hx ia e y hy=>by
  obtain ⟨j,hj,h1,e2⟩:=zbV hy
  have:j=a.size - 1:=by omega
  subst this
  rw [<- e2,zam a (by omega)]
  exact hl x (List.mem_of_mem_drop hx)
 have doneA:∀ {out:List Keyed} {ia ib:Nat},MI rk a.toList b.toList out ia ib->ib=b.size->MFin rk a.toList b.toList (out ++ a.toList.drop ia ++ b.toList.drop ib):=fun m e=>by
  subst e
  rw [<- lb] at m ⊢
  rw [List.drop_length,List.append_nil]
  exact m.restA sa
 have doneB:∀ {out:List Keyed} {ia ib:Nat},MI rk a.toList b.toList out ia ib->ia=a.size->MFin rk a.toList b.toList (out ++ a.toList.drop ia ++ b.toList.drop ib):=fun m e=>by
  subst e
  rw [<- la] at m ⊢
  rw [List.drop_length,List.append_nil]
  exact m.restB sb
 refine wpS_bind (wpS_lift (wpAny_rule ⟨rfl,?_⟩))
 dsimp only
 refine wpS_bind (zay hb ?_)
 refine zaj (fun e1 => ?_) (fun e1 => ?_)
 ·have e1:1=b.size:=by simpa using e1
  refine wpS_pure (q _ st (Like.refl st) ?_)
  have:=doneA m0 e1
  simp only [Array.toList_append,Array.toList_push,zaG]
  exact this
 refine zaj (fun e2 => ?_) (fun e2 => ?_)
 ·have e2:0 + 1=a.size:=by simpa using e2
  refine wpS_pure (q _ st (Like.refl st) ?_)
  have:=m0.restBA sa sb (fun x hx y hy=>lastA 1 x hx 0 e2 y hy)
  simp only [Array.toList_append,Array.toList_push,zaG]
  exact this
 have e1:¬ 1=b.size:=by simpa using e1
 have e2:¬ 0 + 1=a.size:=by simpa using e2
 refine wpS_bind (wpS_get ?_)
 refine wpS_bind (wpS_mono (wpS_forRange (I:=fun x c st'=>Like st st'/\∃ (out:Array Keyed) (ia ib g:Nat),c=(none,out,ia,ib,g)/\MI rk a.toList b.toList out.toList ia ib/\ia + 1 < a.size/\ib < b.size/\x < ia + ib) (Q:=fun c st'=>Like st st'/\∃ res:Array Keyed,c.1=some res/\MFin rk a.toList b.toList res.toList) ?step ?fin ⟨Like.refl st,_,_,_,_,rfl,m0,by omega,by omega,by omega⟩) ?post)
 case fin =>
  rintro c st' ⟨_,out,ia,ib,g,rfl,_,h1,h2,h3⟩
  omega
 case post =>
  rintro ⟨r,out,ia,ib,g⟩ st' ⟨hL,res,e,hf⟩
  dsimp only at e ⊢
  subst e
  exact wpS_pure (q res st' hL hf)
 case step =>
  rintro x c st1 _ hx ⟨hL,out,ia,ib,g,rfl,m,h1,h2,h3⟩
  dsimp only
  have hk1:kindOf st1=kd:=hL.1.trans hst
  refine wpS_bind (wpS_mono (wpS_forRange (I:=fun y c st'=>st'=st1/\∃ (out:Array Keyed) (ia ib ac bc:Nat),c=(none,out,ia,ib,ac,bc)/\MI rk a.toList b.toList out.toList ia ib/\ia + 1 < a.size/\ib < b.size/\x < ia + ib/\(0 < y->x + 1 < ia + ib)) (Q:=fun c st'=>st'=st1/\((∃ res:Array Keyed,c.1=some res/\MFin rk a.toList b.toList res.toList)\/∃ (out:Array Keyed) (ia ib ac bc:Nat),c=(none,out,ia,ib,ac,bc)/\MI rk a.toList b.toList out.toList ia ib/\ia + 1 < a.size/\ib < b.size/\x + 1 < ia + ib)) ?step ?fin ⟨rfl,_,_,_,_,_,rfl,m,h1,h2,h3,by omega⟩) ?post)
  case fin =>
   rintro c st' ⟨rfl,out,ia,ib,ac,bc,rfl,m,h1,h2,h3,h4⟩
   exact ⟨rfl,.inr ⟨out,ia,ib,ac,bc,rfl,m,h1,h2,h4 (by omega)⟩⟩
  case step =>
   rintro y c st' _ hy ⟨rfl,out,ia,ib,ac,bc,rfl,m,h1,h2,h3,h4⟩
   dsimp only
   refine wpS_bind (zay h2 (wpS_bind (zay (show ia < a.size by omega) (wpS_bind (C.ask (Sb _ h2) (Sa _ (by omega)) hk1 ?_)))))
   dsimp only
   refine zaj (fun hw => ?_) (fun hw => ?_)
   ·have hw:rk b[ib] < rk a[ia]:=by simpa using hw
    have m':=m.pushB sb (by omega) (fun y hy=>by
     have:=zcC sa (show ia < a.toList.length by omega) y hy
     rw [zam a (by omega)] at this
     rw [zam b h2]
     omega)
    rw [zam b h2] at m'
    refine wpS_bind (zay h2 ?_)
    refine zaj (fun e => ?_) (fun e => ?_)
    ·have e:ib + 1=b.size:=by simpa using e
     refine wpS_pure ⟨rfl,.inl ⟨_,rfl,?_⟩⟩
     have:=doneA m' e
     simp only [Array.toList_append,Array.toList_push,zaG]
     exact this
    have e:¬ ib + 1=b.size:=by simpa using e
    refine zaj (fun _=>wpS_pure ⟨rfl,.inr ⟨_,_,_,_,_,rfl,by simpa using m',h1,by omega,by omega⟩⟩) (fun _=>wpS_pure ⟨rfl,_,_,_,_,_,rfl,by simpa using m',h1,by omega,by omega,by omega⟩)
   ·have hw:rk a[ia]<=rk b[ib]:=by simpa using hw
    have m':=m.pushA sa (by omega) (fun y hy=>by
     have:=zcC sb (show ib < b.toList.length by omega) y hy
     rw [zam b h2] at this
     rw [zam a (by omega)]
     omega)
    rw [zam a (by omega)] at m'
    refine wpS_bind (zay (show ia < a.size by omega) ?_)
    refine zaj (fun e => ?_) (fun e => ?_)
    ·have e:ia + 1 + 1=a.size:=by simpa using e
     refine wpS_pure ⟨rfl,.inl ⟨_,rfl,?_⟩⟩
     have:=m'.restBA sa sb (fun x hx y hy=>lastA _ x hx _ e y hy)
     simp only [Array.toList_append,Array.toList_push,zaG]
     exact this
    have e:¬ ia + 1 + 1=a.size:=by simpa using e
    refine zaj (fun _=>wpS_pure ⟨rfl,.inr ⟨_,_,_,_,_,rfl,by simpa using m',by omega,h2,by omega⟩⟩) (fun _=>wpS_pure ⟨rfl,_,_,_,_,_,rfl,by simpa using m',by omega,h2,by omega,by omega⟩)
  case post =>
   rintro ⟨r,out,ia,ib,ac,bc⟩ st' ⟨rfl,hres | ⟨out',ia',ib',ac',bc',e,m,h1,h2,h3⟩⟩
   ·obtain ⟨res,e,hf⟩:=hres
    dsimp only at e ⊢
    subst e
    exact wpS_pure ⟨hL,res,rfl,hf⟩
   cases e
   dsimp only
   refine wpS_bind (wpS_lift (wpAny_rule ⟨rfl,?_⟩))
   refine wpS_bind (wpS_mono (wpS_forRange (I:=fun y c st'=>Like st st'/\∃ (out:Array Keyed) (ia ib g ac bc:Nat),c=(none,out,ia,ib,g,ac,bc)/\MI rk a.toList b.toList out.toList ia ib/\ia + 1 < a.size/\ib < b.size/\x + 1 < ia + ib) (Q:=fun c st'=>Like st st'/\((∃ res:Array Keyed,c.1=some res/\MFin rk a.toList b.toList res.toList)\/∃ (out:Array Keyed) (ia ib g ac bc:Nat),c=(none,out,ia,ib,g,ac,bc)/\MI rk a.toList b.toList out.toList ia ib/\ia + 1 < a.size/\ib < b.size/\x + 1 < ia + ib)) ?step ?fin ⟨hL,_,_,_,_,_,_,rfl,m,h1,h2,h3⟩) ?post)
   case fin =>
    rintro c st' ⟨hL2,h⟩
    exact ⟨hL2,.inr h⟩
   case post =>
    rintro ⟨r,out,ia,ib,g,ac,bc⟩ st2 ⟨hL2,hres | ⟨out',ia',ib',g',ac',bc',e,m,h1,h2,h3⟩⟩
    ·obtain ⟨res,e,hf⟩:=hres
     dsimp only at e ⊢
     subst e
     exact wpS_pure ⟨hL2,res,rfl,hf⟩
    cases e
    dsimp only
    exact wpS_bind (za1 ⟨rfl,rfl,rfl,rfl⟩ fun st3 hL3=>wpS_pure ⟨hL2.trans hL3,_,_,_,_,rfl,m,h1,h2,h3⟩)
   case step =>
    rintro y c st2 _ hy ⟨hL2,out,ia,ib,g,ac,bc,rfl,m,h1,h2,h3⟩
    dsimp only
    apply zfn
    ·intro R
     refine zaj (fun h0=>wpS_bind (za1 ⟨rfl,rfl,rfl,rfl⟩ ?_)) (fun h0=>wpS_bind (za1 ⟨rfl,rfl,rfl,rfl⟩ ?_))
     ·clear h0
      generalize g - 1=g'
      revert g'
      exact R
     ·exact R g
    intro g' st3 hL3
    have hL4:=hL2.trans hL3
    have hk3:kindOf st3=kd:=hL4.1.trans hst
    refine wpS_bind (zay h2 ?_)
    refine wpS_bind (zbo C (Sb _ h2) (fun i h _ _=>Sa i h) (by omega) (by omega) (zf5 sa (by omega)) hk3 fun k j1 j2 j3 => ?_)
    dsimp only
    simp only [Bool.false_eq_true,if_false] at j2 j3
    have mA:=m.moreA sa (k:=k) (by omega) (fun i hi g1 g2 y hy=>by
     have h5:=j2 (i - ia) (by omega)
     rw [show ia + (i - ia)=i by omega,zaS (by omega)] at h5
     have h6:=zcC sb (show ib < b.toList.length by omega) y hy
     rw [zam b h2] at h6
     rw [zam a (by omega)]
     omega)
    have gtB:∀ y∈a.toList.drop (ia + k),rk b[ib]<=rk y:=fun y hy=>by
     obtain ⟨j,hj,g1,e⟩:=zbV hy
     have h5:=j3 (j - ia) (by omega) (by omega)
     rw [show ia + (j - ia)=j by omega,zaS (by omega)] at h5
     rw [<- e,zam a (by omega)]
     omega
    have ex:(a.extract ia (ia + k)).toList=(a.toList.drop ia).take k:=by rw [zaE,Nat.add_sub_cancel_left]
    rw [<- ex,<- Array.toList_append] at mA
    have f12:∀ (_:¬ (ia + k + 1 == a.size)=true) (_:¬ (ia + k == a.size)=true),ia + k + 1 < a.size:=fun e5 e6=>by
     have e5:¬ ia + k + 1=a.size:=by simpa using e5
     have e6:¬ ia + k=a.size:=by simpa using e6
     omega
    have f32:x + 1 < ia + k + ib:=by omega
    apply zfn
    ·intro R
     refine zez (fun k0 => ?b2) (fun k0=>zaj (fun e => ?x2) (fun e5=>zaj (fun e => ?y2) (fun e6 => ?a2)))
     rotate_right
     have h12:=f12 e5 e6
     have h32:=f32
     clear e5 e6 k0
     have mA':=mA
     have gtB':=gtB
     generalize out ++ a.extract ia (ia + k)=out2 at mA' ⊢
     generalize ia + k=ia2 at mA' gtB' h12 h32 ⊢
     revert out2 ia2
     exact R
     ·have e7:k=0:=by omega
      have gtB2:=gtB
      rw [e7,Nat.add_zero] at gtB2
      exact R out ia m gtB2 h1 h3
     ·have e:ia + k + 1=a.size:=by simpa using e
      refine wpS_pure ⟨hL4,.inl ⟨_,rfl,?_⟩⟩
      have:=mA.restBA sa sb (fun x hx y hy=>lastA _ x hx _ e y hy)
      simp only [Array.toList_append,zaG] at this ⊢
      exact this
     ·have e:ia + k=a.size:=by simpa using e
      refine wpS_pure ⟨hL4,.inl ⟨_,rfl,?_⟩⟩
      have:=doneB mA e
      simp only [Array.toList_append,zaG] at this ⊢
      exact this
    intro out2 ia2 mA gtB h12 h32
    have mB:=mA.pushB sb (by omega) (fun y hy=>by rw [zam b h2]; exact gtB y hy)
    rw [zam b h2] at mB
    refine wpS_bind (zay h2 ?_)
    refine zaj (fun e => ?_) (fun e => ?_)
    ·have e:ib + 1=b.size:=by simpa using e
     refine wpS_pure ⟨hL4,.inl ⟨_,rfl,?_⟩⟩
     have:=doneA mB e
     simp only [Array.toList_append,Array.toList_push,zaG]
     exact this
    have e8:¬ ib + 1=b.size:=by simpa using e
    have hia2:ia2 < a.size:=by omega
    have hb4:ib + 1 < b.size:=by omega
    have h34:x + 1 < ia2 + (ib + 1):=by omega
    rw [<- Array.toList_push] at mB
    generalize out2.push b[ib]=out4 at mB ⊢
    generalize ib + 1=ib4 at mB hb4 h34 ⊢
    refine wpS_bind (zay hia2 ?_)
    refine wpS_bind (zbo C (Sa _ hia2) (fun i h _ _=>Sb i h) (by omega) (by omega) (zf5 sb (by omega)) hk3 fun k2 j4 j5 j6 => ?_)
    dsimp only
    simp only [if_true] at j5 j6
    have mC:=mB.moreB sb (k:=k2) (by omega) (fun i hi g1 g2 y hy=>by
     have h5:=j5 (i - ib4) (by omega)
     rw [show ib4 + (i - ib4)=i by omega,zaS (by omega)] at h5
     have h6:=zcC sa (show ia2 < a.toList.length by omega) y hy
     rw [zam a hia2] at h6
     rw [zam b (by omega)]
     omega)
    have leA:∀ y∈b.toList.drop (ib4 + k2),rk a[ia2]<=rk y:=fun y hy=>by
     obtain ⟨j,hj,g1,e⟩:=zbV hy
     have h5:=j6 (j - ib4) (by omega) (by omega)
     rw [show ib4 + (j - ib4)=j by omega,zaS (by omega)] at h5
     rw [<- e,zam b (by omega)]
     omega
    have ex2:(b.extract ib4 (ib4 + k2)).toList=(b.toList.drop ib4).take k2:=by rw [zaE,Nat.add_sub_cancel_left]
    rw [<- ex2,<- Array.toList_append] at mC
    have f22:∀ (_:¬ (ib4 + k2 == b.size)=true),ib4 + k2 < b.size:=fun e5=>by
     have e5:¬ ib4 + k2=b.size:=by simpa using e5
     omega
    have f33:x + 1 < ia2 + (ib4 + k2):=by omega
    apply zfn
    ·intro R
     refine zez (fun k1 => ?b3) (fun k1=>zaj (fun e => ?x3) (fun e5 => ?a3))
     rotate_right
     have h22:=f22 e5
     have h33:=f33
     clear e5 k1
     have mC':=mC
     have leA':=leA
     generalize out4 ++ b.extract ib4 (ib4 + k2)=out3 at mC' ⊢
     generalize ib4 + k2=ib2 at mC' leA' h22 h33 ⊢
     revert out3 ib2
     exact R
     ·have e7:k2=0:=by omega
      have leA2:=leA
      rw [e7,Nat.add_zero] at leA2
      exact R out4 ib4 mB leA2 hb4 h34
     ·have e:ib4 + k2=b.size:=by simpa using e
      refine wpS_pure ⟨hL4,.inl ⟨_,rfl,?_⟩⟩
      have:=doneA mC e
      simp only [Array.toList_append,Array.toList_push,zaG] at this ⊢
      exact this
    intro out3 ib2 mC leA h22 h33
    have mD:=mC.pushA sa (by omega) (fun y hy=>by rw [zam a hia2]; exact leA y hy)
    rw [zam a hia2,<- Array.toList_push] at mD
    refine wpS_bind (zay hia2 ?_)
    refine zaj (fun e => ?_) (fun e => ?_)
    ·have e:ia2 + 1 + 1=a.size:=by simpa using e
     refine wpS_pure ⟨hL4,.inl ⟨_,rfl,?_⟩⟩
     have:=mD.restBA sa sb (fun x hx y hy=>lastA _ x hx _ e y hy)
     simp only [Array.toList_append,Array.toList_push,zaG] at this ⊢
     exact this
    have e9:¬ ia2 + 1 + 1=a.size:=by simpa using e
    exact zaj (fun _=>wpS_pure ⟨hL4,.inr ⟨_,_,_,_,_,_,rfl,mD,by omega,h22,by omega⟩⟩) (fun _=>wpS_pure ⟨hL4,_,_,_,_,_,_,rfl,mD,by omega,h22,by omega⟩)
end
structure HI (rk:Keyed->Int) (la lb out:List Keyed) (na nb:Nat):Prop where
 perm:out.Perm (la.drop na ++ lb.drop nb)
 srt:out.Pairwise fun x y=>rk y<=rk x
 high:∀ x∈out,(∀ y∈la.take na,rk y<=rk x)/\∀ y∈lb.take nb,rk y<=rk x
section
variable {rk:Keyed->Int} {la lb out:List Keyed} {na nb:Nat}
theorem za9 {l:List Keyed} {n:Nat} {y:Keyed} (h:y∈l.take n):∃ j,∃ hj:j < l.length,j < n/\l[j]=y:=by
 obtain ⟨j,hj,e⟩:=List.getElem_of_mem h
 rw [List.length_take] at hj
 rw [List.getElem_take] at e
 exact ⟨j,by omega,by omega,e⟩
theorem zdc {l:List Keyed} (s:Srt rk l) {n:Nat} (h0:0 < n) (h:n<=l.length):∀ y∈l.take n,rk y<=rk (l[n - 1]'(by omega)):=fun y hy=>by
 obtain ⟨j,hj,h1,rfl⟩:=za9 hy
 by_cases e:j=n - 1
 ·subst e; exact Int.le_refl _
 ·exact List.pairwise_iff_getElem.mp s j (n - 1) hj (by omega) (by omega)
theorem zb2 {l:List Keyed} {m n:Nat} (h:m<=n) {y:Keyed} (hy:y∈l.take m):y∈l.take n:=by
 have:l.take m=(l.take n).take m:=by rw [List.take_take,Nat.min_eq_left h]
 rw [this] at hy
 exact List.mem_of_mem_take hy
theorem HI.pushA (m:HI rk la lb out na nb) (sa:Srt rk la) (h0:0 < na) (h:na<=la.length) (hb:∀ y∈lb.take nb,rk y<=rk (la[na - 1]'(by omega))):HI rk la lb (out ++ [la[na - 1]'(by omega)]) (na - 1) nb:=by
 have hd:la.drop (na - 1)=la[na - 1]'(by omega) :: la.drop na:=by
  have:=zaU (l:=la) (i:=na - 1) (by omega)
  rwa [Nat.sub_add_cancel h0] at this
 have hm:la[na - 1]'(by omega)∈la.take na:=by
  rw [List.mem_take_iff_getElem]
  exact ⟨na - 1,by omega,rfl⟩
 refine ⟨?_,List.pairwise_append.mpr ⟨m.srt,by simp,fun x hx y hy => ?_⟩,fun x hx => ?_⟩
 ·rw [hd,List.cons_append]
  exact (m.perm.append_right _).trans List.perm_append_comm
 ·rw [List.mem_singleton.mp hy]
  exact (m.high x hx).1 _ hm
 ·rcases List.mem_append.mp hx with z | z
  ·exact ⟨fun y hy=>(m.high x z).1 y (zb2 (by omega) hy),(m.high x z).2⟩
  ·rw [List.mem_singleton.mp z]
   exact ⟨fun y hy=>zdc sa h0 h y (zb2 (by omega) hy),hb⟩
theorem HI.pushB (m:HI rk la lb out na nb) (sb:Srt rk lb) (h0:0 < nb) (h:nb<=lb.length) (ha:∀ y∈la.take na,rk y<=rk (lb[nb - 1]'(by omega))):HI rk la lb (out ++ [lb[nb - 1]'(by omega)]) na (nb - 1):=by
 have hd:lb.drop (nb - 1)=lb[nb - 1]'(by omega) :: lb.drop nb:=by
  have:=zaU (l:=lb) (i:=nb - 1) (by omega)
  rwa [Nat.sub_add_cancel h0] at this
 have hm:lb[nb - 1]'(by omega)∈lb.take nb:=by
  rw [List.mem_take_iff_getElem]
  exact ⟨nb - 1,by omega,rfl⟩
 refine ⟨?_,List.pairwise_append.mpr ⟨m.srt,by simp,fun x hx y hy => ?_⟩,fun x hx => ?_⟩
 ·rw [hd]
  refine (m.perm.append_right _).trans ?_
  rw [List.append_assoc]
  refine List.Perm.append_left _ ?_
  exact List.perm_append_comm
 ·rw [List.mem_singleton.mp hy]
  exact (m.high x hx).2 _ hm
 ·rcases List.mem_append.mp hx with z | z
  ·exact ⟨(m.high x z).1,fun y hy=>(m.high x z).2 y (zb2 (by omega) hy)⟩
  ·rw [List.mem_singleton.mp z]
   exact ⟨ha,fun y hy=>zdc sb h0 h y (zb2 (by omega) hy)⟩
theorem HI.moreA (m:HI rk la lb out na nb) (sa:Srt rk la) (h:na<=la.length):∀ {d p:Nat},p + d=na->(∀ i (h:i < la.length),p<=i->i < na->∀ y∈lb.take nb,rk y<=rk la[i])->HI rk la lb (out ++ ((la.drop p).take d).reverse) p nb
 | 0,p,e,_=>by
  have:p=na:=by omega
  subst this
  simpa using m
 | d + 1,p,e,hy=>by
  have m1:=HI.moreA m sa h (d:=d) (p:=p + 1) (by omega) fun i hi h1 h2=>hy i hi (by omega) h2
  have m2:=m1.pushA sa (by omega) (by omega) (hy (p + 1 - 1) (by omega) (by omega) (by omega))
  rw [zaU (show p < la.length by omega),List.take_succ_cons,List.reverse_cons,<- List.append_assoc]
  simpa only [Nat.add_sub_cancel] using m2
theorem HI.moreB (m:HI rk la lb out na nb) (sb:Srt rk lb) (h:nb<=lb.length):∀ {d p:Nat},p + d=nb->(∀ i (h:i < lb.length),p<=i->i < nb->∀ y∈la.take na,rk y<=rk lb[i])->HI rk la lb (out ++ ((lb.drop p).take d).reverse) na p
 | 0,p,e,_=>by
  have:p=nb:=by omega
  subst this
  simpa using m
 | d + 1,p,e,hy=>by
  have m1:=HI.moreB m sb h (d:=d) (p:=p + 1) (by omega) fun i hi h1 h2=>hy i hi (by omega) h2
  have m2:=m1.pushB sb (by omega) (by omega) (hy (p + 1 - 1) (by omega) (by omega) (by omega))
  rw [zaU (show p < lb.length by omega),List.take_succ_cons,List.reverse_cons,<- List.append_assoc]
  simpa only [Nat.add_sub_cancel] using m2
theorem HI.rev (m:HI rk la lb out na nb):Srt rk out.reverse:=List.pairwise_reverse.mpr m.srt
theorem HI.restAB (m:HI rk la lb out na nb) (sa:Srt rk la) (sb:Srt rk lb) (h:∀ x∈la.take na,∀ y∈lb.take nb,rk x<=rk y):MFin rk la lb (la.take na ++ lb.take nb ++ out.reverse):=by
 refine ⟨?_,List.pairwise_append.mpr ⟨List.pairwise_append.mpr ⟨List.Pairwise.sublist (List.take_sublist _ _) sa,List.Pairwise.sublist (List.take_sublist _ _) sb,h⟩,m.rev,fun x hx y hy => ?_⟩⟩
 ·refine (List.Perm.append_left _ ((List.reverse_perm out).trans m.perm)).trans ?_
  have e:la.take na ++ lb.take nb ++ (la.drop na ++ lb.drop nb)=la.take na ++ (lb.take nb ++ la.drop na) ++ lb.drop nb:=by simp
  rw [e]
  refine (List.Perm.append_right _ (List.Perm.append_left _ List.perm_append_comm)).trans ?_
  rw [<- List.append_assoc,List.take_append_drop,List.append_assoc,List.take_append_drop]
 ·have:=m.high y (List.mem_reverse.mp hy)
  rcases List.mem_append.mp hx with z | z
  ·exact this.1 x z
  ·exact this.2 x z
theorem HI.restBA (m:HI rk la lb out na nb) (sa:Srt rk la) (sb:Srt rk lb) (h:∀ x∈lb.take nb,∀ y∈la.take na,rk x<=rk y):MFin rk la lb (lb.take nb ++ la.take na ++ out.reverse):=by
 refine ⟨?_,List.pairwise_append.mpr ⟨List.pairwise_append.mpr ⟨List.Pairwise.sublist (List.take_sublist _ _) sb,List.Pairwise.sublist (List.take_sublist _ _) sa,h⟩,m.rev,fun x hx y hy => ?_⟩⟩
 ·refine (List.Perm.append_left _ ((List.reverse_perm out).trans m.perm)).trans ?_
  have e:lb.take nb ++ la.take na ++ (la.drop na ++ lb.drop nb)=lb.take nb ++ la ++ lb.drop nb:=by
   have:=List.take_append_drop na la
   rw [List.append_assoc,<- List.append_assoc (la.take na),this,<- List.append_assoc]
  rw [e]
  refine (List.Perm.append_right _ List.perm_append_comm).trans ?_
  rw [List.append_assoc,List.take_append_drop]
 ·have:=m.high y (List.mem_reverse.mp hy)
  rcases List.mem_append.mp hx with z | z
  ·exact this.2 x z
  ·exact this.1 x z
end
theorem zax (a:Array Keyed) (n:Nat):(a.extract 0 n).toList=a.toList.take n:=by
 rw [zaE,List.drop_zero,Nat.sub_zero]
noncomputable abbrev mergeHiS:Array Keyed->Array Keyed->StateT SortSt Sem (Array Keyed):=sortPriv% PySem.Builtin.mergeHi
section
variable {prog:Program} {w:World} {A:Around} {E:Value->Shared->Prop} {s:Shared} {kd:SortKind} {S:Keyed->Prop} {rk:Keyed->Int}
theorem mergeHi_ok (C:Ranks prog w A E s kd S rk) {a b:Array Keyed} {Q:Array Keyed->SortSt->Prop} {st:SortSt} (ha:0 < a.size) (hb:0 < b.size) (sa:Srt rk a.toList) (sb:Srt rk b.toList) (Sa:∀ i (h:i < a.size),S a[i]) (Sb:∀ i (h:i < b.size),S b[i]) (h0:∀ y∈a.toList,rk b[0]<=rk y) (hl:∀ y∈b.toList,rk y<=rk (a[a.size - 1]'(by omega))) (hst:kindOf st=kd)
  (q:∀ res st',Like st st'->MFin rk a.toList b.toList res.toList->Q res st'):wpS (model prog w) A E s (mergeHiS a b) Q st:=by
 have la:a.toList.length=a.size:=Array.length_toList
 have lb:b.toList.length=b.size:=Array.length_toList
 have m0:HI rk a.toList b.toList [a[a.size - 1]'(by omega)] (a.size - 1) b.size:=by
  have mm:HI rk a.toList b.toList [] a.size b.size:=⟨by rw [<- la,<- lb]; simp,List.Pairwise.nil,fun x hx=>by cases hx⟩
  have:=mm.pushA sa ha (by omega) (fun y hy=>by rw [zam a (by omega)]; exact hl y (List.mem_of_mem_take hy))
  rw [zam a (by omega)] at this
  exact this
 have firstB:∀ nb,nb=1->∀ na,∀ x∈b.toList.take nb,∀ y∈a.toList.take na,rk x<=rk y:=fun nb e na x hx y hy=>by
  subst e
  obtain ⟨j,hj,h1,e2⟩:=za9 hx
  have:j=0:=by omega
  subst this
  rw [<- e2,zam b hb]
  exact h0 y (List.mem_of_mem_take hy)
 have doneA:∀ {out:List Keyed} {na nb:Nat},HI rk a.toList b.toList out na nb->na=0->MFin rk a.toList b.toList (a.toList.take na ++ b.toList.take nb ++ out.reverse):=fun m e=>by
  subst e
  exact m.restAB sa sb (fun x hx=>by simp at hx)
 have doneB:∀ {out:List Keyed} {na nb:Nat},HI rk a.toList b.toList out na nb->nb=0->MFin rk a.toList b.toList (a.toList.take na ++ b.toList.take nb ++ out.reverse):=fun m e=>by
  subst e
  exact m.restAB sa sb (fun x _ y hy=>by simp at hy)
 refine wpS_bind (wpS_lift (wpAny_rule ⟨rfl,?_⟩))
 dsimp only
 refine wpS_bind (zay (by omega) ?_)
 refine zaj (fun e1 => ?_) (fun e1 => ?_)
 ·have e1:a.size - 1=0:=by simpa using e1
  refine wpS_pure (q _ st (Like.refl st) ?_)
  have:=doneA m0 e1
  simp only [Array.toList_append,Array.toList_reverse,zax]
  exact this
 refine zaj (fun e2 => ?_) (fun e2 => ?_)
 ·have e2:b.size=1:=by simpa using e2
  refine wpS_pure (q _ st (Like.refl st) ?_)
  have:=m0.restBA sa sb (fun x hx y hy=>firstB _ e2 _ x hx y hy)
  simp only [Array.toList_append,Array.toList_reverse,zax]
  exact this
 have e1:¬ a.size - 1=0:=by simpa using e1
 have e2:¬ b.size=1:=by simpa using e2
 refine wpS_bind (wpS_get ?_)
 refine wpS_bind (wpS_mono (wpS_forRange (I:=fun x c st'=>Like st st'/\∃ (out:Array Keyed) (na nb g:Nat),c=(none,na,nb,out,g)/\HI rk a.toList b.toList out.toList na nb/\0 < na/\na<=a.size/\1 < nb/\nb<=b.size/\x + na + nb < a.size + b.size) (Q:=fun c st'=>Like st st'/\∃ res:Array Keyed,c.1=some res/\MFin rk a.toList b.toList res.toList) ?step ?fin ⟨Like.refl st,_,_,_,_,rfl,m0,by omega,by omega,by omega,by omega,by omega⟩) ?post)
 case fin =>
  rintro c st' ⟨_,out,na,nb,g,rfl,_,h1,h2,h3,h4,h5⟩
  omega
 case post =>
  rintro ⟨r,na,nb,out,g⟩ st' ⟨hL,res,e,hf⟩
  dsimp only at e ⊢
  subst e
  exact wpS_pure (q res st' hL hf)
 case step =>
  rintro x c st1 _ hx ⟨hL,out,na,nb,g,rfl,m,h1,h1',h2,h2',h3⟩
  dsimp only
  have hk1:kindOf st1=kd:=hL.1.trans hst
  refine wpS_bind (wpS_mono (wpS_forRange (I:=fun y c st'=>st'=st1/\∃ (out:Array Keyed) (na nb ac bc:Nat),c=(none,na,nb,out,ac,bc)/\HI rk a.toList b.toList out.toList na nb/\0 < na/\na<=a.size/\1 < nb/\nb<=b.size/\x + na + nb < a.size + b.size/\(0 < y->x + 1 + na + nb < a.size + b.size)) (Q:=fun c st'=>st'=st1/\((∃ res:Array Keyed,c.1=some res/\MFin rk a.toList b.toList res.toList)\/∃ (out:Array Keyed) (na nb ac bc:Nat),c=(none,na,nb,out,ac,bc)/\HI rk a.toList b.toList out.toList na nb/\0 < na/\na<=a.size/\1 < nb/\nb<=b.size/\x + 1 + na + nb < a.size + b.size)) ?step ?fin ⟨rfl,_,_,_,_,_,rfl,m,h1,h1',h2,h2',h3,by omega⟩) ?post)
  case fin =>
   rintro c st' ⟨rfl,out,na,nb,ac,bc,rfl,m,h1,h1',h2,h2',h3,h4⟩
   exact ⟨rfl,.inr ⟨out,na,nb,ac,bc,rfl,m,h1,h1',h2,h2',h4 (by omega)⟩⟩
  case step =>
   rintro y c st' _ hy ⟨rfl,out,na,nb,ac,bc,rfl,m,h1,h1',h2,h2',h3,h4⟩
   dsimp only
   have ib:nb - 1 < b.size:=by omega
   have ia:na - 1 < a.size:=by omega
   refine wpS_bind (zay ib (wpS_bind (zay ia (wpS_bind (C.ask (Sb _ ib) (Sa _ ia) hk1 ?_)))))
   dsimp only
   refine zaj (fun hw => ?_) (fun hw => ?_)
   ·have hw:rk b[nb - 1] < rk a[na - 1]:=by simpa using hw
    have m':=m.pushA sa h1 (by omega) (fun y hy=>by
     have:=zdc sb (show 0 < nb by omega) (by omega) y hy
     rw [zam b ib] at this
     rw [zam a ia]
     omega)
    rw [zam a ia,<- Array.toList_push] at m'
    refine wpS_bind (zay ia ?_)
    refine zaj (fun e => ?_) (fun e => ?_)
    ·have e:na - 1=0:=by simpa using e
     refine wpS_pure ⟨rfl,.inl ⟨_,rfl,?_⟩⟩
     have:=doneA m' e
     simp only [Array.toList_append,Array.toList_reverse,zax]
     exact this
    have e:¬ na - 1=0:=by simpa using e
    refine zaj (fun _=>wpS_pure ⟨rfl,.inr ⟨_,_,_,_,_,rfl,m',by omega,by omega,h2,h2',by omega⟩⟩) (fun _=>wpS_pure ⟨rfl,_,_,_,_,_,rfl,m',by omega,by omega,h2,h2',by omega,by omega⟩)
   ·have hw:rk a[na - 1]<=rk b[nb - 1]:=by simpa using hw
    have m':=m.pushB sb (by omega) (by omega) (fun y hy=>by
     have:=zdc sa h1 (by omega) y hy
     rw [zam a ia] at this
     rw [zam b ib]
     omega)
    rw [zam b ib,<- Array.toList_push] at m'
    refine wpS_bind (zay ib ?_)
    refine zaj (fun e => ?_) (fun e => ?_)
    ·have e:nb - 1=1:=by simpa using e
     refine wpS_pure ⟨rfl,.inl ⟨_,rfl,?_⟩⟩
     have:=m'.restBA sa sb (fun x hx y hy=>firstB _ e _ x hx y hy)
     simp only [Array.toList_append,Array.toList_reverse,zax]
     exact this
    have e:¬ nb - 1=1:=by simpa using e
    refine zaj (fun _=>wpS_pure ⟨rfl,.inr ⟨_,_,_,_,_,rfl,m',h1,h1',by omega,by omega,by omega⟩⟩) (fun _=>wpS_pure ⟨rfl,_,_,_,_,_,rfl,m',h1,h1',by omega,by omega,by omega,by omega⟩)
  case post =>
   rintro ⟨r,na,nb,out,ac,bc⟩ st' ⟨rfl,hres | ⟨out',na',nb',ac',bc',e,m,h1,h1',h2,h2',h3⟩⟩
   ·obtain ⟨res,e,hf⟩:=hres
    dsimp only at e ⊢
    subst e
    exact wpS_pure ⟨hL,res,rfl,hf⟩
   cases e
   dsimp only
   refine wpS_bind (wpS_lift (wpAny_rule ⟨rfl,?_⟩))
   refine wpS_bind (wpS_mono (wpS_forRange (I:=fun y c st'=>Like st st'/\∃ (out:Array Keyed) (na nb g ac bc:Nat),c=(none,na,nb,out,g,ac,bc)/\HI rk a.toList b.toList out.toList na nb/\0 < na/\na<=a.size/\1 < nb/\nb<=b.size/\x + 1 + na + nb < a.size + b.size) (Q:=fun c st'=>Like st st'/\((∃ res:Array Keyed,c.1=some res/\MFin rk a.toList b.toList res.toList)\/∃ (out:Array Keyed) (na nb g ac bc:Nat),c=(none,na,nb,out,g,ac,bc)/\HI rk a.toList b.toList out.toList na nb/\0 < na/\na<=a.size/\1 < nb/\nb<=b.size/\x + 1 + na + nb < a.size + b.size)) ?step ?fin ⟨hL,_,_,_,_,_,_,rfl,m,h1,h1',h2,h2',h3⟩) ?post)
   case fin =>
    rintro c st' ⟨hL2,h⟩
    exact ⟨hL2,.inr h⟩
   case post =>
    rintro ⟨r,na,nb,out,g,ac,bc⟩ st2 ⟨hL2,hres | ⟨out',na',nb',g',ac',bc',e,m,h1,h1',h2,h2',h3⟩⟩
    ·obtain ⟨res,e,hf⟩:=hres
     dsimp only at e ⊢
     subst e
     exact wpS_pure ⟨hL2,res,rfl,hf⟩
    cases e
    dsimp only
    exact wpS_bind (za1 ⟨rfl,rfl,rfl,rfl⟩ fun st3 hL3=>wpS_pure ⟨hL2.trans hL3,_,_,_,_,rfl,m,h1,h1',h2,h2',by omega⟩)
   case step =>
    rintro y c st2 _ hy ⟨hL2,out,na,nb,g,ac,bc,rfl,m,h1,h1',h2,h2',h3⟩
    dsimp only
    have ib:nb - 1 < b.size:=by omega
    refine zaj (fun _=>wpS_bind (za1 ⟨rfl,rfl,rfl,rfl⟩ fun st3 hL3 => ?_)) (fun _=>wpS_bind (za1 ⟨rfl,rfl,rfl,rfl⟩ fun st3 hL3 => ?_))
    all_goals
     have hL4:=hL2.trans hL3
     have hk3:kindOf st3=kd:=hL4.1.trans hst
     refine wpS_bind (zay ib ?_)
     refine wpS_bind (zbo C (Sb _ ib) (fun i h _ _=>Sa i h) (by omega) (by omega) (zf5 sa (by omega)) hk3 fun p j1 j2 j3 => ?_)
     dsimp only
     simp only [Bool.false_eq_true,if_false,Nat.zero_add] at j2 j3
     have mA:=m.moreA sa (by omega) (d:=na - p) (p:=p) (by omega) (fun i hi g1 g2 y hy=>by
      have h5:=j3 i g1 g2
      rw [zaS (by omega)] at h5
      have h6:=zdc sb (show 0 < nb by omega) (by omega) y hy
      rw [zam b ib] at h6
      rw [zam a (by omega)]
      omega)
     have leB:∀ y∈a.toList.take p,rk y<=rk b[nb - 1]:=fun y hy=>by
      obtain ⟨j,hj,g1,e⟩:=za9 hy
      have h5:=j2 j g1
      rw [zaS (by omega)] at h5
      rw [<- e,zam a (by omega)]
      exact h5
     rw [<- zaE,<- Array.toList_reverse,<- Array.toList_append] at mA
     refine zaj (fun k0 => ?_) (fun k0 => ?_)
     rotate_left
     have mA:=m
     have h12:=h1
     have h12':=h1'
     have h32:=h3
     have e7:p=na:=by omega
     rw [e7] at leB ⊢
     generalize out=out2 at mA ⊢
     generalize na=na2 at mA leB h12 h12' h32 ⊢
     rotate_left
     refine zaj (fun e => ?_) (fun e => ?_)
     ·have e:p=0:=by simpa using e
      refine wpS_pure ⟨hL4,.inl ⟨_,rfl,?_⟩⟩
      have:=doneA mA e
      simp only [Array.toList_append,Array.toList_reverse,zax] at this ⊢
      exact this
     have e5:¬ p=0:=by simpa using e
     have h12:0 < p:=by omega
     have h12':p<=a.size:=by omega
     have h32:x + 1 + p + nb < a.size + b.size:=by omega
     generalize out ++ (a.extract p na).reverse=out2 at mA ⊢
     generalize na - p=kk at k0 ⊢
     generalize p=na2 at mA leB h12 h12' h32 ⊢
    all_goals
     have mB:=mA.pushB sb (by omega) (by omega) (fun y hy=>by rw [zam b ib]; exact leB y hy)
     rw [zam b ib,<- Array.toList_push] at mB
     refine wpS_bind (zay ib ?_)
     refine zaj (fun e => ?_) (fun e => ?_)
     ·have e:nb - 1=1:=by simpa using e
      refine wpS_pure ⟨hL4,.inl ⟨_,rfl,?_⟩⟩
      have:=mB.restBA sa sb (fun x hx y hy=>firstB _ e _ x hx y hy)
      simp only [Array.toList_append,Array.toList_reverse,zax]
      exact this
     have e8:¬ nb - 1=1:=by simpa using e
     have hia2:na2 - 1 < a.size:=by omega
     refine wpS_bind (zay hia2 ?_)
     refine wpS_bind (zbo C (Sa _ hia2) (fun i h _ _=>Sb i h) (by omega) (by omega) (zf5 sb (by omega)) hk3 fun p2 j4 j5 j6 => ?_)
     dsimp only
     simp only [if_true,Nat.zero_add] at j5 j6
     have mC:=mB.moreB sb (by omega) (d:=nb - 1 - p2) (p:=p2) (by omega) (fun i hi g1 g2 y hy=>by
      have h5:=j6 i g1 g2
      rw [zaS (by omega)] at h5
      have h6:=zdc sa h12 (by omega) y hy
      rw [zam a hia2] at h6
      rw [zam b (by omega)]
      omega)
     have leA:∀ y∈b.toList.take p2,rk y<=rk a[na2 - 1]:=fun y hy=>by
      obtain ⟨j,hj,g1,e⟩:=za9 hy
      have h5:=j5 j g1
      rw [zaS (by omega)] at h5
      rw [<- e,zam b (by omega)]
      omega
     rw [<- zaE,<- Array.toList_reverse,<- Array.toList_append] at mC
     refine zaj (fun k1 => ?_) (fun k1 => ?_)
     rotate_left
     have mC:=mB
     have h22:1 < nb - 1:=by omega
     have h22':nb - 1<=b.size:=by omega
     have h33:x + 1 + na2 + (nb - 1) < a.size + b.size:=by omega
     have e7:p2=nb - 1:=by omega
     rw [e7] at leA ⊢
     generalize out2.push b[nb - 1]=out3 at mC ⊢
     generalize nb - 1=nb2 at mC leA h22 h22' h33 ⊢
     rotate_left
     refine zaj (fun e => ?_) (fun e => ?_)
     ·have e:p2=1:=by simpa using e
      refine wpS_pure ⟨hL4,.inl ⟨_,rfl,?_⟩⟩
      have:=mC.restBA sa sb (fun x hx y hy=>firstB _ e _ x hx y hy)
      simp only [Array.toList_append,Array.toList_reverse,zax] at this ⊢
      exact this
     have e5:¬ p2=1:=by simpa using e
     refine zaj (fun e => ?_) (fun e => ?_)
     ·have e:p2=0:=by simpa using e
      refine wpS_pure ⟨hL4,.inl ⟨_,rfl,?_⟩⟩
      have:=doneB mC e
      simp only [Array.toList_append,Array.toList_reverse,zax] at this ⊢
      exact this
     have e6:¬ p2=0:=by simpa using e
     have h22:1 < p2:=by omega
     have h22':p2<=b.size:=by omega
     have h33:x + 1 + na2 + p2 < a.size + b.size:=by omega
     generalize out2.push b[nb - 1] ++ (b.extract p2 (nb - 1)).reverse=out3 at mC ⊢
     generalize nb - 1 - p2=kk2 at k1 ⊢
     generalize p2=nb2 at mC leA h22 h22' h33 ⊢
    all_goals
     have mD:=mC.pushA sa h12 (by omega) (fun y hy=>by rw [zam a hia2]; exact leA y hy)
     rw [zam a hia2,<- Array.toList_push] at mD
     refine wpS_bind (zay hia2 ?_)
     refine zaj (fun e => ?_) (fun e => ?_)
     ·have e:na2 - 1=0:=by simpa using e
      refine wpS_pure ⟨hL4,.inl ⟨_,rfl,?_⟩⟩
      have:=doneA mD e
      simp only [Array.toList_append,Array.toList_reverse,zax] at this ⊢
      exact this
     have e9:¬ na2 - 1=0:=by simpa using e
     exact zaj (fun _=>wpS_pure ⟨hL4,.inr ⟨_,_,_,_,_,_,rfl,mD,by omega,by omega,h22,h22',by omega⟩⟩) (fun _=>wpS_pure ⟨hL4,_,_,_,_,_,_,rfl,mD,by omega,by omega,h22,h22',by omega⟩)
end
theorem zaT {rk:Keyed->Int} {xs ys:Array Keyed} {i j:Nat} (h:xs[i]?=ys[j]?):kAt rk xs i=kAt rk ys j:=by unfold kAt; rw [h]
theorem zcq {rk:Keyed->Int} {xs:Array Keyed} {i j:Nat} (hj:j<=xs.size) (k:Nat):kAt rk (mirror xs i j ((j - i) / 2)) k=if i<=k/\k < j then kAt rk xs (i + j - 1 - k) else kAt rk xs k:=by
 have e:=getElem?_mirror_all (i:=i) hj k
 by_cases h:i<=k/\k < j
 ·rw [if_pos h] at e ⊢; exact zaT e
 ·rw [if_neg h] at e ⊢; exact zaT e
theorem zbb {rk:Keyed->Int} {xs:Array Keyed} {i j:Nat} (hj:j<=xs.size) (h:∀ k,i<=k->k < j->kAt rk xs k=kAt rk xs (j - 1)) (k:Nat):kAt rk (mirror xs i j ((j - i) / 2)) k=kAt rk xs k:=by
 rw [zcq hj]
 by_cases e:i<=k/\k < j
 ·rw [if_pos e,h _ (by omega) (by omega),h k e.1 e.2]
 ·rw [if_neg e]
theorem zdk {rk:Keyed->Int} {xs:Array Keyed} {src d:Nat} (hs:src < xs.size) (hd:d<=src) (k:Nat):kAt rk (bubble xs src d) k=if k=src - d then kAt rk xs src else if src - d < k/\k<=src then kAt rk xs (k - 1) else kAt rk xs k:=by
 have e:=getElem?_bubble hs d hd k
 by_cases h:k=src - d
 ·rw [if_pos h] at e ⊢; exact zaT e
 ·rw [if_neg h] at e ⊢
  by_cases h2:src - d < k/\k<=src
  ·rw [if_pos h2] at e ⊢; exact zaT e
  ·rw [if_neg h2] at e ⊢; exact zaT e
structure Chg (lo hi:Nat) (st st':SortSt):Prop where
 kind:kindOf st'=kindOf st
 pend:pendingOf st'=pendingOf st
 fail:failedOf st'=failedOf st
 perm:(arrOf st').Perm (arrOf st)
 out:∀ i,(i < lo\/hi<=i)->(arrOf st')[i]?=(arrOf st)[i]?
theorem Chg.refl {lo hi:Nat} (st:SortSt):Chg lo hi st st:=⟨rfl,rfl,rfl,Array.Perm.refl _,fun _ _=>rfl⟩
theorem Chg.size {lo hi:Nat} {st st':SortSt} (h:Chg lo hi st st'):(arrOf st').size=(arrOf st).size:=h.perm.size_eq
theorem Chg.trans {lo hi:Nat} {a b c:SortSt} (h:Chg lo hi a b) (k:Chg lo hi b c):Chg lo hi a c:=⟨k.kind.trans h.kind,k.pend.trans h.pend,k.fail.trans h.fail,k.perm.trans h.perm,fun i hi=>(k.out i hi).trans (h.out i hi)⟩
theorem Chg.wide {lo hi lo' hi':Nat} {a b:SortSt} (h:Chg lo hi a b) (h1:lo'<=lo) (h2:hi<=hi'):Chg lo' hi' a b:=⟨h.kind,h.pend,h.fail,h.perm,fun i hi=>h.out i (by omega)⟩
theorem Chg.mirror {lo hi i j:Nat} {st st':SortSt} (h:Chg lo hi st st') (hi':lo<=i) (hj:j<=hi) (hs:j<=(arrOf st').size):Chg lo hi st (setArr st' (mirror (arrOf st') i j ((j - i) / 2))) :=
 h.trans ⟨rfl,rfl,rfl,mirror_perm _ _ _ _,fun k hk=>by
  show (PyProof.Rows.mirror (arrOf st') i j ((j - i) / 2))[k]?=_
  rw [getElem?_mirror_all hs,if_neg (by omega)]⟩
theorem Chg.bubble {lo hi src d:Nat} {st st':SortSt} (h:Chg lo hi st st') (h1:lo + d<=src) (h2:src < hi) (hs:src < (arrOf st').size):Chg lo hi st (setArr st' (bubble (arrOf st') src d)) :=
 h.trans ⟨rfl,rfl,rfl,bubble_perm _ _ _,fun k hk=>by
  show (PyProof.Rows.bubble (arrOf st') src d)[k]?=_
  rw [getElem?_bubble hs _ (by omega),if_neg (by omega),if_neg (by omega)]⟩
theorem zbN {S:Keyed->Prop} {a b:Array Keyed} (p:b.Perm a) (h:∀ x∈a.toList,S x):∀ x∈b.toList,S x:=fun x hx=>h x ((Array.perm_iff_toList_perm.mp p).mem_iff.mp hx)
theorem zf4 {S:Keyed->Prop} {a:Array Keyed} (h:∀ x∈a.toList,S x) (i:Nat) (hi:i < a.size):S a[i]:=h _ (by simp)
theorem Up2.more {rk:Keyed->Int} {arr:Array Keyed} {lo hi:Nat} (u:Up2 rk arr lo hi) (h:lo < hi) (e:kAt rk arr (hi - 1)<=kAt rk arr hi):Up2 rk arr lo (hi + 1):=fun i j h1 h2 h3=>by
 by_cases ej:j=hi
 ·by_cases ei:i=hi
  ·rw [ei,ej]; exact Int.le_refl _
  ·have:=u i (hi - 1) h1 (by omega) (by omega)
   rw [ej]; omega
 ·exact u i j h1 h2 (by omega)
noncomputable def Dn2 (rk:Keyed->Int) (arr:Array Keyed) (lo hi:Nat):Prop:=∀ i j,lo<=i->i<=j->j < hi->kAt rk arr j<=kAt rk arr i
theorem Dn2.more {rk:Keyed->Int} {arr:Array Keyed} {lo hi:Nat} (u:Dn2 rk arr lo hi) (h:lo < hi) (e:kAt rk arr hi<=kAt rk arr (hi - 1)):Dn2 rk arr lo (hi + 1):=fun i j h1 h2 h3=>by
 by_cases ej:j=hi
 ·by_cases ei:i=hi
  ·rw [ei,ej]; exact Int.le_refl _
  ·have:=u i (hi - 1) h1 (by omega) (by omega)
   rw [ej]; omega
 ·exact u i j h1 h2 (by omega)
theorem Dn2.like {rk:Keyed->Int} {arr arr':Array Keyed} {lo hi:Nat} (u:Dn2 rk arr lo hi) (h:∀ k,kAt rk arr' k=kAt rk arr k):Dn2 rk arr' lo hi:=fun i j h1 h2 h3=>by
 rw [h,h]; exact u i j h1 h2 h3
section
variable {prog:Program} {w:World} {A:Around} {E:Value->Shared->Prop} {s:Shared} {kd:SortKind} {S:Keyed->Prop} {rk:Keyed->Int}
theorem zfI (C:Ranks prog w A E s kd S rk) {i j:Nat} {st:SortSt} {Q:Option Bool->SortSt->Prop} (hS:∀ x∈(arrOf st).toList,S x) (hk:kindOf st=kd) (hi:i < (arrOf st).size) (hj:j < (arrOf st).size) (q:Q (some (decide (kAt rk (arrOf st) i < kAt rk (arrOf st) j))) st):wpS (model prog w) A E s (ltAt' i j) Q st:=by
 rw [ltAt'_eq]
 refine wpS_bind (wpS_get (wpS_bind (zay hi (wpS_bind (zay hj (C.ask (zf4 hS i hi) (zf4 hS j hj) hk ?_))))))
 rw [zaS hi,zaS hj] at q
 exact q
theorem zf3 (C:Ranks prog w A E s kd S rk) {st:SortSt} {lo a nrem:Nat} (hS:∀ x∈(arrOf st).toList,S x) (hk:kindOf st=kd) (hn:lo + nrem<=(arrOf st).size) (ha:1<=a) (han:a<=nrem) (u:Up2 rk (arrOf st) lo (lo + a)) {F:Nat->Option (Option Nat)×Nat->StateT SortSt Sem (ForInStep (Option (Option Nat)×Nat))}
  (f:∀ x n R,lo + n < (arrOf st).size->1<=n->(if kAt rk (arrOf st) (lo + n) < kAt rk (arrOf st) (lo + n - 1) then R (ForInStep.done (none,n)) st else R (ForInStep.yield (none,n + 1)) st)->wpS (model prog w) A E s (F x (none,n)) R st) :
  wpS (model prog w) A E s (forIn [a:nrem] (none,a) F) (fun c st'=>st'=st/\∃ n,c=(none,n)/\a<=n/\n<=nrem/\Up2 rk (arrOf st) lo (lo + n)/\(n=nrem\/kAt rk (arrOf st) (lo + n) < kAt rk (arrOf st) (lo + n - 1))) st:=by
 refine wpS_forRange (I:=fun x c st'=>st'=st/\c=(none,x)/\Up2 rk (arrOf st) lo (lo + x)) ?step ?fin ⟨rfl,rfl,u⟩
 case fin =>
  rintro c st' ⟨rfl,rfl,u'⟩
  rw [show max a nrem=nrem by omega] at u' ⊢
  exact ⟨rfl,nrem,rfl,han,Nat.le_refl _,u',.inl rfl⟩
 case step =>
  rintro x c st' hax hxn ⟨rfl,rfl,u'⟩
  refine f x x _ (by omega) (by omega) ?_
  by_cases hl:kAt rk (arrOf st') (lo + x) < kAt rk (arrOf st') (lo + x - 1)
  ·rw [if_pos hl]
   exact ⟨rfl,x,rfl,hax,by omega,u',.inr hl⟩
  ·rw [if_neg hl]
   exact ⟨rfl,rfl,by have:=u'.more (by omega) (by omega); rwa [show lo + x + 1=lo + (x + 1) by omega] at this⟩
theorem countRun_ok (C:Ranks prog w A E s kd S rk) {st:SortSt} {lo nrem:Nat} {Q:Option Nat->SortSt->Prop} (hS:∀ x∈(arrOf st).toList,S x) (hk:kindOf st=kd) (hn:lo + nrem<=(arrOf st).size) (h1:1<=nrem)
  (q:∀ m st',Chg lo (lo + nrem) st st'->1<=m->m<=nrem->Up2 rk (arrOf st') lo (lo + m)->Q (some m) st'):wpS (model prog w) A E s (countRun' lo nrem) Q st:=by
 rw [countRun'_eq]
 have asc1:∀ {st1:SortSt},Chg lo (lo + nrem) st st1->∀ {i j:Nat} {R:Option Bool->SortSt->Prop},i < (arrOf st).size->j < (arrOf st).size->R (some (decide (kAt rk (arrOf st1) i < kAt rk (arrOf st1) j))) st1->wpS (model prog w) A E s (ltAt' i j) R st1:=fun {st1} c i j R hi hj r =>
  zfI C (zbN c.perm hS) (c.kind.trans hk) (by rw [c.size]; exact hi) (by rw [c.size]; exact hj) r
 refine wpS_bind (wpS_mono (zf3 C hS hk hn (Nat.le_refl 1) h1 (fun i j a b c=>by rw [show i=j by omega]; exact Int.le_refl _) fun x n R b1 b2 r => ?_) ?_)
 ·refine wpS_bind (asc1 (Chg.refl st) (by omega) (by omega) ?_)
  dsimp only
  refine zaj (fun e => ?_) (fun e => ?_)
  ·rw [if_pos (by simpa using e)] at r; exact wpS_pure r
  ·rw [if_neg (by simpa using e)] at r; exact wpS_pure r
 rintro ⟨r,n⟩ st0 ⟨e0,n',e,hn1,hn2,u,hor⟩
 cases e
 rw [e0]
 clear e0 st0
 dsimp only
 refine zaj (fun e=>wpS_pure (q n _ (Chg.refl _) hn1 hn2 u)) (fun e => ?_)
 have e:¬ n=nrem:=by simpa using e
 have hlt:=hor.resolve_left e
 refine zaj (fun g => ?_) (fun g => ?_)
 refine wpS_bind (asc1 (Chg.refl st) (by omega) (by omega) ?_)
 dsimp only
 refine zaj (fun _=>wpS_pure (q n _ (Chg.refl _) hn1 hn2 u)) (fun ng => ?_)
 have ng:kAt rk (arrOf st) (lo + n - 1)<=kAt rk (arrOf st) lo:=by simpa using ng
 have all:∀ k,lo<=k->k < lo + n->kAt rk (arrOf st) k=kAt rk (arrOf st) (lo + n - 1):=fun k a b=>by
  have a1:=u lo k (Nat.le_refl _) a b
  have a2:=u k (lo + n - 1) a (by omega) (by omega)
  omega
 refine wpS_bind (wpS_reverse ?_)
 have c1:=(Chg.refl (lo:=lo) (hi:=lo + nrem) st).mirror (i:=lo) (j:=lo + n) (Nat.le_refl _) (by omega) (by omega)
 have d1:Dn2 rk (arrOf (setArr st (mirror (arrOf st) lo (lo + n) ((lo + n - lo) / 2)))) lo (lo + (n + 1)):=by
  refine Dn2.like (arr:=arrOf st) ?_ (zbb (by omega) all)
  have d0:Dn2 rk (arrOf st) lo (lo + n):=fun i j a b c=>by rw [all i a (by omega),all j (by omega) c]; exact Int.le_refl _
  exact d0.more (by omega) (by omega)
 generalize setArr st (mirror (arrOf st) lo (lo + n) ((lo + n - lo) / 2))=st1 at c1 d1 ⊢
 rotate_left
 have c1:=Chg.refl (lo:=lo) (hi:=lo + nrem) st
 have d1:Dn2 rk (arrOf st) lo (lo + (n + 1)):=by
  have d0:Dn2 rk (arrOf st) lo (lo + n):=fun i j a b c=>by rw [show i=j by omega]; exact Int.le_refl _
  exact d0.more (by omega) (by omega)
 obtain ⟨st1,hh⟩:∃ st1,st1=st:=⟨_,rfl⟩
 have c1:Chg lo (lo + nrem) st st1:=by rw [hh]; exact c1
 have d1:Dn2 rk (arrOf st1) lo (lo + (n + 1)):=by rw [hh]; exact d1
 rw [<- hh]
 clear hh
 all_goals
  refine wpS_bind (wpS_lift (wpAny_rule ⟨rfl,?_⟩))
  refine wpS_bind (wpS_mono (wpS_forRange (I:=fun x c st'=>∃ neq,c=(none,x,neq)/\Chg lo (lo + nrem) st st'/\Dn2 rk (arrOf st') lo (lo + x)/\neq + 1<=x/\∀ i,lo + x - (neq + 1)<=i->i < lo + x->kAt rk (arrOf st') i=kAt rk (arrOf st') (lo + x - 1))
   (Q:=fun c st'=>∃ m neq,c=(none,m,neq)/\Chg lo (lo + nrem) st st'/\n + 1<=m/\m<=nrem/\Dn2 rk (arrOf st') lo (lo + m)/\neq + 1<=m/\∀ i,lo + m - (neq + 1)<=i->i < lo + m->kAt rk (arrOf st') i=kAt rk (arrOf st') (lo + m - 1)) ?step ?fin ⟨0,rfl,c1,d1,by omega,fun i a b=>by congr 1; omega⟩) ?post)
  case fin =>
   rintro c st' ⟨neq,rfl,a1,a2,a3,a4⟩
   rw [show max (n + 1) nrem=nrem by omega] at a2 a3 a4 ⊢
   exact ⟨nrem,neq,rfl,a1,by omega,Nat.le_refl _,a2,a3,a4⟩
  case step =>
   rintro x c st' hx1 hx2 ⟨neq,rfl,a1,a2,a3,a4⟩
   dsimp only
   have sz:=a1.size
   refine wpS_bind (asc1 a1 (by omega) (by omega) ?_)
   dsimp only
   refine zaj (fun e1 => ?_) (fun e1 => ?_)
   ·have e1:kAt rk (arrOf st') (lo + x) < kAt rk (arrOf st') (lo + x - 1):=by simpa using e1
    have d2:Dn2 rk (arrOf st') lo (lo + (x + 1)):=a2.more (by omega) (by omega)
    refine zaj (fun e2=>wpS_bind (wpS_reverse (wpS_pure ?_))) (fun e2=>wpS_pure ?_)
    ·exact ⟨0,rfl,a1.mirror (by omega) (by omega) (by omega),d2.like (zbb (by omega) a4),by omega,fun i a b=>by congr 1; omega⟩
    ·exact ⟨0,rfl,a1,d2,by omega,fun i a b=>by congr 1; omega⟩
   ·have e1:kAt rk (arrOf st') (lo + x - 1)<=kAt rk (arrOf st') (lo + x):=by simpa using e1
    refine wpS_bind (asc1 a1 (by omega) (by omega) ?_)
    dsimp only
    refine zaj (fun e2=>wpS_pure ?_) (fun e2=>wpS_pure ?_)
    ·exact ⟨x,neq,rfl,a1,hx1,by omega,a2,a3,a4⟩
    ·have e2:kAt rk (arrOf st') (lo + x)<=kAt rk (arrOf st') (lo + x - 1):=by simpa using e2
     refine ⟨neq + 1,rfl,a1,a2.more (by omega) e2,by omega,fun i a b => ?_⟩
     rw [show lo + (x + 1) - 1=lo + x by omega]
     by_cases ei:i=lo + x
     ·rw [ei]
     ·rw [a4 i (by omega) (by omega)]; omega
  case post =>
   rintro ⟨r,m,neq⟩ st' ⟨m',neq',e2,a1,am,am2,a2,a3,a4⟩
   cases e2
   dsimp only
   have sz:=a1.size
   refine zaj (fun g2 => ?_) (fun g2 => ?_)
   refine wpS_bind (wpS_reverse ?_)
   have a5:=a1.mirror (i:=lo + m - (neq + 1)) (j:=lo + m) (by omega) (by omega) (by omega)
   have a6:Dn2 rk (arrOf (setArr st' (mirror (arrOf st') (lo + m - (neq + 1)) (lo + m) ((lo + m - (lo + m - (neq + 1))) / 2)))) lo (lo + m):=a2.like (zbb (by omega) a4)
   generalize setArr st' (mirror (arrOf st') (lo + m - (neq + 1)) (lo + m) ((lo + m - (lo + m - (neq + 1))) / 2))=st2 at a5 a6 ⊢
   rotate_left
   have a5:=a1
   have a6:=a2
   clear a1 a2 a3 a4
   generalize st'=st2 at a5 a6 ⊢
   all_goals
    have sz2:=a5.size
    have a7:=a5.mirror (i:=lo) (j:=lo + m) (Nat.le_refl _) (by omega) (by omega)
    have a8:Up2 rk (arrOf (setArr st2 (mirror (arrOf st2) lo (lo + m) ((lo + m - lo) / 2)))) lo (lo + m):=fun i j b1 b2 b3=>by
     show kAt rk (mirror (arrOf st2) lo (lo + m) ((lo + m - lo) / 2)) i<=kAt rk (mirror (arrOf st2) lo (lo + m) ((lo + m - lo) / 2)) j
     rw [zcq (by omega),zcq (by omega),if_pos (by omega),if_pos (by omega)]
     exact a6 _ _ (by omega) (by omega) (by omega)
    refine wpS_bind (wpS_reverse ?_)
    generalize setArr st2 (mirror (arrOf st2) lo (lo + m) ((lo + m - lo) / 2))=st3 at a7 a8 ⊢
    have sz3:=a7.size
    refine wpS_bind (wpS_mono (zf3 C (zbN a7.perm hS) (a7.kind.trans hk) (by omega) (show 1<=m by omega) (by omega) a8 fun x n R b1 b2 r => ?_) ?_)
    ·refine wpS_bind (asc1 a7 (by omega) (by omega) ?_)
     dsimp only
     refine zaj (fun e => ?_) (fun e => ?_)
     ·rw [if_pos (by simpa using e)] at r; exact wpS_pure r
     ·rw [if_neg (by simpa using e)] at r; exact wpS_pure r
    rintro ⟨r,k⟩ st4 ⟨e0,k',ek,b1,b2,b3,_⟩
    cases ek
    rw [e0]
    exact wpS_pure (q k _ a7 (by omega) b2 b3)
theorem binSort_ok (C:Ranks prog w A E s kd S rk) {st:SortSt} {lo n ok:Nat} {Q:Bool->SortSt->Prop} (hS:∀ x∈(arrOf st).toList,S x) (hk:kindOf st=kd) (hn:lo + n<=(arrOf st).size) (hok:ok<=n) (u:Up2 rk (arrOf st) lo (lo + ok))
  (q:∀ st',Chg lo (lo + n) st st'->Up2 rk (arrOf st') lo (lo + n)->Q true st'):wpS (model prog w) A E s (binarySort' lo n ok) Q st:=by
 rw [binarySort'_eq]
 refine wpS_bind (wpS_mono (wpS_forRange (I:=fun k c st'=>c=(none,())/\Chg lo (lo + n) st st'/\Up2 rk (arrOf st') lo (lo + min k n)) (Q:=fun c st'=>c=(none,())/\Chg lo (lo + n) st st'/\Up2 rk (arrOf st') lo (lo + n)) ?step ?fin ?init) ?post)
 case post =>
  rintro c st' ⟨rfl,a,b⟩
  exact wpS_pure (q st' a b)
 case init =>
  refine ⟨rfl,Chg.refl _,fun i j a b c => ?_⟩
  by_cases h1:ok=0
  ·rw [show i=j by omega]; exact Int.le_refl _
  ·exact u i j a b (by omega)
 case fin =>
  rintro c st' ⟨rfl,a,b⟩
  refine ⟨rfl,a,?_⟩
  rwa [show min (max (max ok 1) n) n=n by omega] at b
 case step =>
  rintro k c st' hk1 hk2 ⟨rfl,a,b⟩
  rw [show min k n=k by omega] at b
  have sz:=a.size
  refine wpS_bind (wpS_mono (wpS_forRange (I:=fun x c st''=>st''=st'/\∃ l r,c=(none,l,r)/\l<=r/\r<=k/\r - l<=k - x/\(∀ i,i < l->kAt rk (arrOf st') (lo + i)<=kAt rk (arrOf st') (lo + k))/\(∀ i,r<=i->i < k->kAt rk (arrOf st') (lo + k) < kAt rk (arrOf st') (lo + i)))
   (Q:=fun c st''=>st''=st'/\∃ l r,c=(none,l,r)/\l<=k/\(∀ i,i < l->kAt rk (arrOf st') (lo + i)<=kAt rk (arrOf st') (lo + k))/\(∀ i,l<=i->i < k->kAt rk (arrOf st') (lo + k) < kAt rk (arrOf st') (lo + i))) ?istep ?ifin ⟨rfl,0,k,rfl,by omega,by omega,by omega,fun i hi=>by omega,fun i h1 h2=>by omega⟩) ?ipost)
  case ifin =>
   rintro c st'' ⟨rfl,l,r,rfl,b1,b2,b3,b4,b5⟩
   exact ⟨rfl,l,r,rfl,by omega,b4,fun i h1 h2=>b5 i (by omega) h2⟩
  case istep =>
   rintro x c st'' _ hx ⟨rfl,l,r,rfl,b1,b2,b3,b4,b5⟩
   dsimp only
   refine zaj (fun e=>wpS_pure ⟨rfl,l,r,rfl,by omega,b4,fun i h1 h2=>b5 i (by omega) h2⟩) (fun e => ?_)
   refine wpS_bind (zfI C (zbN a.perm hS) (a.kind.trans hk) (by omega) (by omega) ?_)
   dsimp only
   refine zaj (fun e1=>wpS_pure ?_) (fun e1=>wpS_pure ?_)
   ·have e1:kAt rk (arrOf st'') (lo + k) < kAt rk (arrOf st'') (lo + (l + r) / 2):=by simpa using e1
    refine ⟨rfl,l,(l + r) / 2,rfl,by omega,by omega,by omega,b4,fun i h1 h2 => ?_⟩
    have:=b (lo + (l + r) / 2) (lo + i) (by omega) (by omega) (by omega)
    omega
   ·have e1:kAt rk (arrOf st'') (lo + (l + r) / 2)<=kAt rk (arrOf st'') (lo + k):=by simpa using e1
    refine ⟨rfl,(l + r) / 2 + 1,r,rfl,by omega,by omega,by omega,fun i h1 => ?_,b5⟩
    have:=b (lo + i) (lo + (l + r) / 2) (by omega) (by omega) (by omega)
    omega
  case ipost =>
   rintro ⟨r0,l,r⟩ st'' ⟨e0,l',r',e,b2,b4,b5⟩
   cases e
   rw [e0]
   dsimp only
   rw [moveDown'_eq]
   refine wpS_bind (wpS_modify (wpS_pure ⟨rfl,a.bubble (by omega) (by omega) (by omega),?_⟩))
   rw [show min (k + 1) n=k + 1 by omega]
   intro i j h1 h2 h3
   show kAt rk (bubble (arrOf st') (lo + k) (lo + k - (lo + l))) i<=kAt rk (bubble (arrOf st') (lo + k) (lo + k - (lo + l))) j
   rw [zdk (by omega) (by omega),zdk (by omega) (by omega),show lo + k - (lo + k - (lo + l))=lo + l by omega]
   by_cases e1:i=lo + l
   ·rw [if_pos e1]
    by_cases e2:j=lo + l
    ·rw [if_pos e2]; exact Int.le_refl _
    ·rw [if_neg e2,if_pos (by omega)]
     have:=b5 (j - 1 - lo) (by omega) (by omega)
     rw [show lo + (j - 1 - lo)=j - 1 by omega] at this
     omega
   ·rw [if_neg e1]
    by_cases e3:lo + l < i/\i<=lo + k
    ·rw [if_pos e3,if_neg (by omega),if_pos (by omega)]
     exact b _ _ (by omega) (by omega) (by omega)
    ·rw [if_neg e3]
     by_cases e2:j=lo + l
     ·rw [if_pos e2]
      have:=b4 (i - lo) (by omega)
      rwa [show lo + (i - lo)=i by omega] at this
     ·rw [if_neg e2]
      by_cases e4:lo + l < j/\j<=lo + k
      ·rw [if_pos e4]
       exact b _ _ (by omega) (by omega) (by omega)
      ·rw [if_neg e4]
       exact b _ _ (by omega) (by omega) (by omega)
end
theorem wpS_setSt {M:Model} {A:Around} {E:Value->Shared->Prop} {s:Shared} {σ : Type} {x : σ} {Q:PUnit -> σ -> Prop} {st : σ} (h:Q ⟨⟩ x):wpS M A E s (set x:StateT σ Sem PUnit) Q st:=by
 unfold wpS; rw [StateT.run_set]; exact wpAny_pure ⟨rfl,h⟩
theorem wpS_setLike {M:Model} {A:Around} {E:Value->Shared->Prop} {s:Shared} {x:SortSt} {Q:PUnit->SortSt->Prop} {st:SortSt} (h:∀ st',kindOf st'=kindOf x->arrOf st'=arrOf x->pendingOf st'=pendingOf x->failedOf st'=failedOf x->Q ⟨⟩ st'):wpS M A E s (set x:StateT SortSt Sem PUnit) Q st:=wpS_setSt (h x rfl rfl rfl rfl)
noncomputable abbrev seg (l:List Keyed) (lo n:Nat):List Keyed:=(l.drop lo).take n
theorem mem_seg {l:List Keyed} {lo n:Nat} {y:Keyed} (h:y∈seg l lo n):∃ j,∃ hj:j < l.length,lo<=j/\j < lo + n/\l[j]=y:=by
 obtain ⟨j,hj,h1,e⟩:=za9 h
 rw [List.length_drop] at hj
 rw [List.getElem_drop] at e
 exact ⟨lo + j,by omega,by omega,by omega,e⟩
theorem seg_split (l:List Keyed) (lo m n:Nat):seg l lo (m + n)=seg l lo m ++ seg l (lo + m) n:=by
 unfold seg
 rw [List.take_add,List.drop_drop]
theorem seg_whole (l:List Keyed) (lo n:Nat):l=l.take lo ++ seg l lo n ++ l.drop (lo + n):=by
 unfold seg
 conv=>lhs; rw [<- List.take_append_drop lo l,<- List.take_append_drop n (l.drop lo)]
 rw [List.drop_drop,List.append_assoc]
theorem zdu {rk:Keyed->Int} {arr:Array Keyed} {lo hi:Nat} (u:Up2 rk arr lo hi) (h:hi<=arr.size):Srt rk (seg arr.toList lo (hi - lo)):=by
 refine List.pairwise_iff_getElem.mpr fun i j hi1 hj hij => ?_
 have l1:(seg arr.toList lo (hi - lo)).length<=hi - lo:=List.length_take_le _ _
 have:=u (lo + i) (lo + j) (by omega) (by omega) (by omega)
 rw [zaS (by omega),zaS (by omega)] at this
 simpa [seg,List.getElem_take,List.getElem_drop] using this
theorem up_seg {rk:Keyed->Int} {arr:Array Keyed} {P L R:List Keyed} (e:arr.toList=P ++ L ++ R) (s:Srt rk L):Up2 rk arr P.length (P.length + L.length):=by
 have hz:arr.size=P.length + L.length + R.length:=by
  rw [<- Array.length_toList,e,List.length_append,List.length_append]
 intro i j h1 h2 h3
 have g:∀ k (hk:P.length<=k) (hk2:k < P.length + L.length),kAt rk arr k=rk (L[k - P.length]'(by omega)):=fun k hk hk2=>by
  rw [zaS (by omega),<- zam arr (by omega)]
  congr 1
  have:arr.toList[k]?=some (L[k - P.length]'(by omega)):=by
   rw [e,List.getElem?_append_left (by rw [List.length_append]; omega),List.getElem?_append_right hk,List.getElem?_eq_getElem (by omega)]
  rw [List.getElem?_eq_getElem (by rw [Array.length_toList]; omega)] at this
  exact Option.some.inj this
 rw [g i h1 (by omega),g j (by omega) h3]
 by_cases eij:i=j
 ·subst eij; exact Int.le_refl _
 ·exact List.pairwise_iff_getElem.mp s _ _ (by omega) (by omega) (by omega)
theorem zeh (base:Nat):∀ (l:List Keyed) (n:Nat) (arr:Array Keyed),base + n + l.length<=arr.size ->
  ((l.zipIdx n).foldl (fun (a:Array Keyed) (x:Keyed×Nat)=>a.setIfInBounds (base + x.2) x.1) arr).toList=arr.toList.take (base + n) ++ l ++ arr.toList.drop (base + n + l.length)
 | [],n,arr,h=>by simp
 | x :: l,n,arr,h=>by
  rw [List.length_cons] at h
  rw [List.zipIdx_cons,List.foldl_cons,zeh base l (n + 1) _ (by rw [Array.size_setIfInBounds]; omega)]
  dsimp only
  rw [Array.toList_setIfInBounds]
  have hb:base + n < arr.toList.length:=by rw [Array.length_toList]; omega
  have e1:(arr.toList.set (base + n) x).take (base + (n + 1))=arr.toList.take (base + n) ++ [x]:=by
   rw [show base + (n + 1)=base + n + 1 by omega,List.take_succ_eq_append_getElem (by rw [List.length_set]; exact hb),List.getElem_set_self,List.take_set_of_le (Nat.le_refl _)]
  have e2:(arr.toList.set (base + n) x).drop (base + (n + 1) + l.length)=arr.toList.drop (base + n + (x :: l).length):=by
   rw [List.drop_set_of_lt (by omega),List.length_cons]
   congr 1; omega
  rw [e1,e2]
  simp
noncomputable abbrev Pend:=Array (Nat×Nat×Nat)
theorem pend_at {p:Pend} {pre post:List (Nat×Nat×Nat)} {x y:Nat×Nat×Nat} (e:p.toList=pre ++ x :: y :: post):p[pre.length]?=some x/\p[pre.length + 1]?=some y:=by
 constructor
 ·rw [<- Array.getElem?_toList,e]; simp
 ·rw [<- Array.getElem?_toList,e]; simp
theorem pend_new {p:Pend} {pre post:List (Nat×Nat×Nat)} {x y z:Nat×Nat×Nat} (e:p.toList=pre ++ x :: y :: post):((p.setIfInBounds pre.length z).eraseIdxIfInBounds (pre.length + 1)).toList=pre ++ z :: post:=by
 rw [Array.toList_eraseIdxIfInBounds,Array.toList_setIfInBounds,e]
 simp [List.eraseIdx_append_of_length_le]
theorem back_out {arr arr':Array Keyed} {b:Nat} {M:List Keyed} (e:arr'.toList=arr.toList.take b ++ M ++ arr.toList.drop (b + M.length)) (h:b + M.length<=arr.size):∀ i,(i < b\/b + M.length<=i)->arr'[i]?=arr[i]?:=fun i hi=>by
 rw [<- Array.getElem?_toList,<- Array.getElem?_toList,e]
 have lb:(arr.toList.take b).length=b:=by rw [List.length_take,Array.length_toList]; omega
 rcases hi with z | z
 ·rw [List.getElem?_append_left (by rw [List.length_append]; omega),List.getElem?_append_left (by omega),List.getElem?_take_of_lt z]
 ·rw [List.getElem?_append_right (by rw [List.length_append]; omega),List.getElem?_drop,List.length_append,lb]
  congr 1; omega
theorem zck {M:Model} {A:Around} {E:Value->Shared->Prop} {s:Shared} {f:SortSt->SortSt} {Q:PUnit->SortSt->Prop} {st:SortSt} (h:∀ st',kindOf st'=kindOf (f st)->arrOf st'=arrOf (f st)->pendingOf st'=pendingOf (f st)->failedOf st'=failedOf (f st)->Q ⟨⟩ st'):wpS M A E s (modify f:StateT SortSt Sem PUnit) Q st:=wpS_modify (h _ rfl rfl rfl rfl)
section
variable {prog:Program} {w:World} {A:Around} {E:Value->Shared->Prop} {s:Shared} {kd:SortKind} {S:Keyed->Prop} {rk:Keyed->Int}
structure Mrg (rk:Keyed->Int) (lo hi:Nat) (st st':SortSt) (p':List (Nat×Nat×Nat)):Prop where
 kind:kindOf st'=kindOf st
 fail:failedOf st'=failedOf st
 pend:(pendingOf st').toList=p'
 perm:(arrOf st').Perm (arrOf st)
 out:∀ i,(i < lo\/hi<=i)->(arrOf st')[i]?=(arrOf st)[i]?
 up:Up2 rk (arrOf st') lo hi
theorem mergeAt_ok (C:Ranks prog w A E s kd S rk) {st:SortSt} {sa na p1 nb p2:Nat} {pre post:List (Nat×Nat×Nat)} {Q:Bool->SortSt->Prop} (hS:∀ x∈(arrOf st).toList,S x) (hk:kindOf st=kd) (hf:failedOf st=none) (hp:(pendingOf st).toList=pre ++ (sa,na,p1) :: (sa + na,nb,p2) :: post) (h1:0 < na) (h2:0 < nb) (hz:sa + na + nb<=(arrOf st).size) (ua:Up2 rk (arrOf st) sa (sa + na)) (ub:Up2 rk (arrOf st) (sa + na) (sa + na + nb))
  (q:∀ st',Mrg rk sa (sa + na + nb) st st' (pre ++ (sa,na + nb,p1) :: post)->Q true st'):wpS (model prog w) A E s (mergeAt' pre.length) Q st:=by
 obtain ⟨g1,g2⟩:=pend_at hp
 have hn:=pend_new (z:=(sa,na + nb,p1)) hp
 refine wpS_bind (wpS_get ?_)
 dsimp only
 unfold pendingOf at g1 g2
 rw [g1,g2]
 dsimp only
 refine wpS_bind (wpS_setLike fun st1 k1 a1 q1 f1 => ?_)
 have k1:kindOf st1=kindOf st:=k1
 have a1:arrOf st1=arrOf st:=a1
 have f1:failedOf st1=failedOf st:=f1
 have q1:(pendingOf st1).toList=pre ++ (sa,na + nb,p1) :: post:=by rw [q1]; exact hn
 have hk1:kindOf st1=kd:=k1.trans hk
 have same:Up2 rk (arrOf st) sa (sa + na + nb)->Q true st1:=fun u=>q st1 ⟨k1,f1,q1,a1 ▸ Array.Perm.refl _,fun i _=>by rw [a1],by rw [a1]; exact u⟩
 have hA:=zf4 hS
 have i1:sa + na < (arrOf st).size:=by omega
 refine wpS_bind (zay i1 ?_)
 refine wpS_bind (zbo C (arr:=arrOf st) (hA _ i1) (fun i h _ _=>hA i h) (by omega) (by omega) ua hk1 fun k j1 j2 j3 => ?_)
 dsimp only
 simp only [Bool.false_eq_true,if_false,<- zaS (rk:=rk) i1] at j2 j3
 refine zaj (fun e=>wpS_pure (same ?_)) (fun e => ?_)
 ·have e:na - k=0:=by simpa using e
  intro i j b1 b2 b3
  by_cases e1:j < sa + na
  ·exact ua i j b1 b2 e1
  by_cases e2:sa + na<=i
  ·exact ub i j e2 b2 b3
  have a2:=j2 (i - sa) (by omega)
  rw [show sa + (i - sa)=i by omega] at a2
  have a3:=ub (sa + na) j (Nat.le_refl _) (by omega) b3
  omega
 have e:¬ na - k=0:=by simpa using e
 have hidx:sa + k + (na - k) - 1=sa + na - 1:=by omega
 rw [hidx]
 have i2:sa + na - 1 < (arrOf st).size:=by omega
 refine wpS_bind (zay i2 ?_)
 refine wpS_bind (zbo C (arr:=arrOf st) (hA _ i2) (fun i h _ _=>hA i h) (by omega) (by omega) ub hk1 fun m j4 j5 j6 => ?_)
 dsimp only
 simp only [if_true,<- zaS (rk:=rk) i2] at j5 j6
 refine zaj (fun e0=>wpS_pure (same ?_)) (fun e0 => ?_)
 ·have e0:m=0:=by simpa using e0
  intro i j b1 b2 b3
  by_cases e1:j < sa + na
  ·exact ua i j b1 b2 e1
  by_cases e2:sa + na<=i
  ·exact ub i j e2 b2 b3
  have a2:=j6 (j - (sa + na)) (by omega) (by omega)
  rw [show sa + na + (j - (sa + na))=j by omega] at a2
  have a3:=ua i (sa + na - 1) b1 (by omega) (by omega)
  omega
 have e0:¬ m=0:=by simpa using e0
 have lL:(arrOf st).toList.length=(arrOf st).size:=Array.length_toList
 have xl:((arrOf st).extract (sa + k) (sa + na)).toList=seg (arrOf st).toList (sa + k) (na - k):=by rw [zaE,show sa + na - (sa + k)=na - k by omega]
 have yl:((arrOf st).extract (sa + na) (sa + na + m)).toList=seg (arrOf st).toList (sa + na) m:=by rw [zaE,Nat.add_sub_cancel_left]
 have xs:((arrOf st).extract (sa + k) (sa + na)).size=na - k:=by rw [Array.size_extract]; omega
 have ys:((arrOf st).extract (sa + na) (sa + na + m)).size=m:=by rw [Array.size_extract]; omega
 have srtX:Srt rk (seg (arrOf st).toList (sa + k) (na - k)):=by
  have:=zdu (lo:=sa + k) (hi:=sa + na) (fun i j b1 b2 b3=>ua i j (by omega) b2 b3) (by omega)
  rwa [show sa + na - (sa + k)=na - k by omega] at this
 have srtY:Srt rk (seg (arrOf st).toList (sa + na) m):=by
  have:=zdu (lo:=sa + na) (hi:=sa + na + m) (fun i j b1 b2 b3=>ub i j (by omega) b2 (by omega)) (by omega)
  rwa [Nat.add_sub_cancel_left] at this
 have atSeg:∀ {lo n:Nat} {y:Keyed},y∈seg (arrOf st).toList lo n->∃ j,lo<=j/\j < lo + n/\j < (arrOf st).size/\rk y=kAt rk (arrOf st) j:=fun {lo n y} hy=>by
  obtain ⟨j,hj,b1,b2,b3⟩:=mem_seg hy
  have hj2:j < (arrOf st).size:=by omega
  refine ⟨j,b1,b2,hj2,?_⟩
  rw [<- b3,zaS hj2,zam _ hj2]
 have cX:∀ y∈seg (arrOf st).toList (sa + k) (na - k),kAt rk (arrOf st) (sa + na)<=rk y/\rk y<=kAt rk (arrOf st) (sa + na - 1):=fun y hy=>by
  obtain ⟨j,b1,b2,b3,b4⟩:=atSeg hy
  have a2:=j3 (j - sa) (by omega) (by omega)
  rw [show sa + (j - sa)=j by omega] at a2
  have a3:=ua j (sa + na - 1) (by omega) (by omega) (by omega)
  omega
 have cY:∀ y∈seg (arrOf st).toList (sa + na) m,kAt rk (arrOf st) (sa + na)<=rk y/\rk y<=kAt rk (arrOf st) (sa + na - 1):=fun y hy=>by
  obtain ⟨j,b1,b2,b3,b4⟩:=atSeg hy
  have a2:=j5 (j - (sa + na)) (by omega)
  rw [show sa + na + (j - (sa + na))=j by omega] at a2
  have a3:=ub (sa + na) j (by omega) (by omega) (by omega)
  omega
 have fin:∀ (res:Array Keyed) (st2:SortSt),Like st1 st2->MFin rk ((arrOf st).extract (sa + k) (sa + na)).toList ((arrOf st).extract (sa + na) (sa + na + m)).toList res.toList->∀ st3,kindOf st3=kindOf st2->arrOf st3=List.foldl (fun (a:Array Keyed) (x:Keyed×Nat)=>a.setIfInBounds (sa + k + x.2) x.1) (arrOf st2) res.toList.zipIdx->pendingOf st3=pendingOf st2->failedOf st3=failedOf st2->Mrg rk sa (sa + na + nb) st st3 (pre ++ (sa,na + nb,p1) :: post):=fun res st2 hL hM st3 k3 a3 q3 f3=>by
  rw [xl,yl] at hM
  have lM:res.toList.length=na - k + m:=by
   rw [hM.1.length_eq,List.length_append,<- xl,<- yl,Array.length_toList,Array.length_toList,xs,ys]
  rw [hL.2.1,a1] at a3
  have b3:=congrArg Array.toList a3
  rw [zeh (sa + k) res.toList 0 (arrOf st) (by omega),Nat.add_zero] at b3
  have ew:(arrOf st).toList=(arrOf st).toList.take (sa + k) ++ (seg (arrOf st).toList (sa + k) (na - k) ++ seg (arrOf st).toList (sa + na) m) ++ (arrOf st).toList.drop (sa + k + res.toList.length):=by
   rw [lM]
   have:=seg_whole (arrOf st).toList (sa + k) (na - k + m)
   rwa [seg_split,show sa + k + (na - k)=sa + na by omega] at this
  refine ⟨k3.trans (hL.1.trans k1),f3.trans (hL.2.2.2.trans f1),by rw [q3,hL.2.2.1,q1],?_,fun i hi=>back_out b3 (by omega) i (by omega),?_⟩
  ·refine Array.perm_iff_toList_perm.mpr ?_
   rw [b3]
   conv=>rhs; rw [ew]
   exact List.Perm.append_right _ (List.Perm.append_left _ hM.1)
  ·have e1:(arrOf st).toList.take (sa + k)=(arrOf st).toList.take sa ++ seg (arrOf st).toList sa k:=List.take_add
   have e2:(arrOf st).toList.drop (sa + k + res.toList.length)=seg (arrOf st).toList (sa + na + m) (nb - m) ++ (arrOf st).toList.drop (sa + na + nb):=by
    rw [lM,show sa + k + (na - k + m)=sa + na + m by omega]
    unfold seg
    conv=>lhs; rw [<- List.take_append_drop (nb - m) ((arrOf st).toList.drop (sa + na + m))]
    rw [List.drop_drop,show sa + na + m + (nb - m)=sa + na + nb by omega]
   have e3:(arrOf st3).toList=(arrOf st).toList.take sa ++ (seg (arrOf st).toList sa k ++ res.toList ++ seg (arrOf st).toList (sa + na + m) (nb - m)) ++ (arrOf st).toList.drop (sa + na + nb):=by
    rw [b3,e1,e2]; simp
   have cM:∀ y∈res.toList,kAt rk (arrOf st) (sa + na)<=rk y/\rk y<=kAt rk (arrOf st) (sa + na - 1):=fun y hy=>by
    rcases List.mem_append.mp (hM.1.mem_iff.mp hy) with z | z
    ·exact cX y z
    ·exact cY y z
   have cA:∀ y∈seg (arrOf st).toList sa k,rk y<=kAt rk (arrOf st) (sa + na):=fun y hy=>by
    obtain ⟨j,b1,b2,b3,b4⟩:=atSeg hy
    have a2:=j2 (j - sa) (by omega)
    rw [show sa + (j - sa)=j by omega] at a2
    omega
   have cB:∀ y∈seg (arrOf st).toList (sa + na + m) (nb - m),kAt rk (arrOf st) (sa + na - 1)<=rk y/\kAt rk (arrOf st) (sa + na)<=rk y:=fun y hy=>by
    obtain ⟨j,b1,b2,b3,b4⟩:=atSeg hy
    have a2:=j6 (j - (sa + na)) (by omega) (by omega)
    rw [show sa + na + (j - (sa + na))=j by omega] at a2
    have a3:=ub (sa + na) j (by omega) (by omega) (by omega)
    omega
   have sA:Srt rk (seg (arrOf st).toList sa k):=by
    have:=zdu (lo:=sa) (hi:=sa + k) (fun i j b1 b2 b3=>ua i j (by omega) b2 (by omega)) (by omega)
    rwa [Nat.add_sub_cancel_left] at this
   have sB:Srt rk (seg (arrOf st).toList (sa + na + m) (nb - m)):=by
    have:=zdu (lo:=sa + na + m) (hi:=sa + na + nb) (fun i j b1 b2 b3=>ub i j (by omega) b2 (by omega)) (by omega)
    rwa [show sa + na + nb - (sa + na + m)=nb - m by omega] at this
   have sAll:Srt rk (seg (arrOf st).toList sa k ++ res.toList ++ seg (arrOf st).toList (sa + na + m) (nb - m)):=by
    refine List.pairwise_append.mpr ⟨List.pairwise_append.mpr ⟨sA,hM.2,fun x hx y hy=>Int.le_trans (cA x hx) (cM y hy).1⟩,sB,fun x hx y hy => ?_⟩
    rcases List.mem_append.mp hx with z | z
    ·exact Int.le_trans (cA x z) (cB y hy).2
    ·exact Int.le_trans (cM x z).2 (cB y hy).1
   have:=up_seg e3 sAll
   have l1:((arrOf st).toList.take sa).length=sa:=by rw [List.length_take]; omega
   have l2:(seg (arrOf st).toList sa k ++ res.toList ++ seg (arrOf st).toList (sa + na + m) (nb - m)).length=na + nb:=by
    rw [List.length_append,List.length_append,lM]
    unfold seg
    rw [List.length_take,List.length_take,List.length_drop,List.length_drop]
    omega
   rwa [l1,l2,<- Nat.add_assoc] at this
 have x0:0 < ((arrOf st).extract (sa + k) (sa + na)).size:=by omega
 have y0:0 < ((arrOf st).extract (sa + na) (sa + na + m)).size:=by omega
 have hX:Srt rk ((arrOf st).extract (sa + k) (sa + na)).toList:=by rw [xl]; exact srtX
 have hY:Srt rk ((arrOf st).extract (sa + na) (sa + na + m)).toList:=by rw [yl]; exact srtY
 have SX:∀ i (h:i < ((arrOf st).extract (sa + k) (sa + na)).size),S ((arrOf st).extract (sa + k) (sa + na))[i]:=fun i h=>by rw [Array.getElem_extract]; exact hA _ _
 have SY:∀ i (h:i < ((arrOf st).extract (sa + na) (sa + na + m)).size),S ((arrOf st).extract (sa + na) (sa + na + m))[i]:=fun i h=>by rw [Array.getElem_extract]; exact hA _ _
 have Y0:rk (((arrOf st).extract (sa + na) (sa + na + m))[0]'y0)=kAt rk (arrOf st) (sa + na):=by
  rw [zaS i1,Array.getElem_extract]; rfl
 have XL:rk (((arrOf st).extract (sa + k) (sa + na))[((arrOf st).extract (sa + k) (sa + na)).size - 1]'(by omega))=kAt rk (arrOf st) (sa + na - 1):=by
  rw [zaS i2,Array.getElem_extract]
  congr 2
  rw [xs]; omega
 have hh0:∀ y∈((arrOf st).extract (sa + k) (sa + na)).toList,rk (((arrOf st).extract (sa + na) (sa + na + m))[0]'y0)<=rk y:=fun y hy=>by
  rw [xl] at hy; rw [Y0]; exact (cX y hy).1
 have hhl:∀ y∈((arrOf st).extract (sa + na) (sa + na + m)).toList,rk y<=rk (((arrOf st).extract (sa + k) (sa + na))[((arrOf st).extract (sa + k) (sa + na)).size - 1]'(by omega)):=fun y hy=>by
  rw [yl] at hy; rw [XL]; exact (cY y hy).2
 refine zaj (fun _=>wpS_bind (mergeLo_ok C x0 y0 hX hY SX SY hh0 hhl hk1 fun res st2 hL hM=>wpS_bind (zck fun st3 k3 a3 q3 f3 => ?_))) (fun _=>wpS_bind (mergeHi_ok C x0 y0 hX hY SX SY hh0 hhl hk1 fun res st2 hL hM=>wpS_bind (zck fun st3 k3 a3 q3 f3 => ?_)))
 all_goals
  have r:=fin res st2 hL hM st3 k3 a3 q3 f3
  have fl:failedOf st3=none:=r.fail.trans hf
  refine wpS_bind (wpS_get ?_)
  unfold failedOf at fl
  rw [fl]
  exact wpS_pure (q st3 r)
end
noncomputable def Stk (rk:Keyed->Int) (arr:Array Keyed):List (Nat×Nat×Nat)->Nat->Nat->Prop
 | [],a,e=>a=e
 | x :: r,a,e=>x.1=a/\0 < x.2.1/\Up2 rk arr a (a + x.2.1)/\Stk rk arr r (a + x.2.1) e
section
variable {rk:Keyed->Int} {arr arr':Array Keyed}
theorem Stk.le:∀ {l:List (Nat×Nat×Nat)} {a e:Nat},Stk rk arr l a e->a + l.length<=e
 | [],a,e,h=>by have h:a=e:=h; simp; omega
 | x :: r,a,e,⟨h1,h2,h3,h4⟩=>by have:=Stk.le h4; rw [List.length_cons]; omega
theorem Stk.congr:∀ {l:List (Nat×Nat×Nat)} {a e:Nat},(∀ i,a<=i->i < e->kAt rk arr' i=kAt rk arr i)->Stk rk arr l a e->Stk rk arr' l a e
 | [],a,e,_,h=>h
 | x :: r,a,e,hc,⟨h1,h2,h3,h4⟩=>by
  have:=Stk.le h4
  refine ⟨h1,h2,fun i j b1 b2 b3 => ?_,Stk.congr (fun i b1 b2=>hc i (by omega) b2) h4⟩
  rw [hc i b1 (by omega),hc j (by omega) (by omega)]
  exact h3 i j b1 b2 b3
theorem Stk.split:∀ {l m:List (Nat×Nat×Nat)} {a e:Nat},Stk rk arr (l ++ m) a e->∃ b,Stk rk arr l a b/\Stk rk arr m b e
 | [],m,a,e,h=>⟨a,rfl,h⟩
 | x :: r,m,a,e,⟨h1,h2,h3,h4⟩=>by
  obtain ⟨b,g1,g2⟩:=Stk.split h4
  exact ⟨b,⟨h1,h2,h3,g1⟩,g2⟩
theorem Stk.join:∀ {l m:List (Nat×Nat×Nat)} {a b e:Nat},Stk rk arr l a b->Stk rk arr m b e->Stk rk arr (l ++ m) a e
 | [],m,a,b,e,h,k=>by have h:a=b:=h; rw [h]; exact k
 | x :: r,m,a,b,e,⟨h1,h2,h3,h4⟩,k=>⟨h1,h2,h3,Stk.join h4 k⟩
theorem Stk.mod {f:Nat×Nat×Nat->Nat×Nat×Nat} (hf:∀ x,(f x).1=x.1/\(f x).2.1=x.2.1):∀ {l:List (Nat×Nat×Nat)} {i a e:Nat},Stk rk arr l a e->Stk rk arr (l.modify i f) a e
 | [],i,a,e,h=>by cases i <;> simpa [List.modify_nil] using h
 | x :: r,0,a,e,⟨h1,h2,h3,h4⟩=>by
  show Stk rk arr (f x :: r) a e
  refine ⟨(hf x).1.trans h1,?_,?_,?_⟩
  ·rw [(hf x).2]; exact h2
  ·rw [(hf x).2]; exact h3
  ·rw [(hf x).2]; exact h4
 | x :: r,i + 1,a,e,⟨h1,h2,h3,h4⟩=>⟨h1,h2,h3,Stk.mod hf h4⟩
theorem two_at {α : Type} {l:List α} {i:Nat} (h:i + 1 < l.length):∃ pre x y post,l=pre ++ x :: y :: post/\pre.length=i:=by
 refine ⟨l.take i,l[i]'(by omega),l[i + 1],l.drop (i + 2),?_,by rw [List.length_take]; omega⟩
 conv=>lhs; rw [<- List.take_append_drop i l]
 rw [List.drop_eq_getElem_cons (show i < l.length by omega),List.drop_eq_getElem_cons h]
end
section
variable {prog:Program} {w:World} {A:Around} {E:Value->Shared->Prop} {s:Shared} {kd:SortKind} {S:Keyed->Prop} {rk:Keyed->Int}
structure Stg (rk:Keyed->Int) (kd:SortKind) (a₀ : Array Keyed) (st:SortSt) (e:Nat):Prop where
 kind:kindOf st=kd
 fail:failedOf st=none
 perm:(arrOf st).Perm a₀
 stk:Stk rk (arrOf st) (pendingOf st).toList 0 e
 le:e<=a₀.size
theorem zcV (C:Ranks prog w A E s kd S rk) {a₀ : Array Keyed} {st:SortSt} {i e:Nat} {Q:Bool->SortSt->Prop} (hS:∀ x∈a₀.toList,S x) (g:Stg rk kd a₀ st e) (hi:i + 1 < (pendingOf st).size)
  (q:∀ st',Stg rk kd a₀ st' e->(pendingOf st').size + 1=(pendingOf st).size->(∀ j,e<=j->(arrOf st')[j]?=(arrOf st)[j]?)->Q true st'):wpS (model prog w) A E s (mergeAt' i) Q st:=by
 obtain ⟨pre,⟨sa,na,p1⟩,⟨sb,nb,p2⟩,post,hp,rfl⟩:=two_at (l:=(pendingOf st).toList) (i:=i) (by rw [Array.length_toList]; exact hi)
 have hs:=g.stk
 rw [hp] at hs
 obtain ⟨b,s1,e1,n1,u1,e2,n2,u2,s2⟩:=hs.split
 dsimp only at e1 n1 u1 e2 n2 u2 s2
 subst e1 e2
 have sz:=g.perm.size_eq
 have l2:=s2.le
 have le:=g.le
 refine mergeAt_ok C (zbN g.perm hS) g.kind g.fail hp n1 n2 (by omega) u1 u2 fun st' m => ?_
 refine q st' ⟨m.kind.trans g.kind,m.fail.trans g.fail,m.perm.trans g.perm,?_,g.le⟩ ?_ fun j hj=>m.out j (.inr (by omega))
 ·rw [m.pend]
  refine Stk.join (b:=sa) (s1.congr fun i b1 b2=>zaT (m.out i (.inl b2))) ⟨rfl,by show 0 < na + nb; omega,?_,?_⟩
  ·have:=m.up; show Up2 rk _ sa (sa + (na + nb)); rwa [<- Nat.add_assoc]
  ·show Stk rk _ post (sa + (na + nb)) e
   rw [<- Nat.add_assoc]
   exact s2.congr fun i b1 b2=>zaT (m.out i (.inr b1))
 ·rw [<- Array.length_toList,<- Array.length_toList,m.pend,hp,List.length_append,List.length_append,List.length_cons,List.length_cons,List.length_cons]
  omega
theorem sortRuns_ok (C:Ranks prog w A E s kd S rk) {st:SortSt} {Q:Unit->SortSt->Prop} (hS:∀ x∈(arrOf st).toList,S x) (hk:kindOf st=kd) (hf:failedOf st=none) (hp:pendingOf st = #[]) (h2:2<=(arrOf st).size)
  (q:∀ st',(arrOf st').Perm (arrOf st)->failedOf st'=none->Up2 rk (arrOf st') 0 (arrOf st).size->Q () st'):wpS (model prog w) A E s sortRuns' Q st:=by
 rw [sortRuns'_eq]
 refine wpS_bind (wpS_get ?_)
 dsimp only
 obtain ⟨a₀,ha⟩:∃ a,a=arrOf st:=⟨_,rfl⟩
 have g0:Stg rk kd a₀ st 0:=⟨hk,hf,ha ▸ Array.Perm.refl _,by rw [hp]; exact rfl,Nat.zero_le _⟩
 rw [<- ha] at hS h2 ⊢
 rw [<- ha] at q
 refine wpS_bind (wpS_mono (wpS_forRange (I:=fun x c st'=>∃ lo,c=(none,lo)/\Stg rk kd a₀ st' lo/\(x<=lo\/lo=a₀.size)) (Q:=fun c st'=>∃ lo,c=(none,lo)/\Stg rk kd a₀ st' lo/\lo=a₀.size) ?step ?fin ⟨0,rfl,g0,.inl (Nat.zero_le _)⟩) ?post)
 case fin =>
  rintro c st' ⟨lo,rfl,g,h⟩
  have:=g.le
  exact ⟨lo,rfl,g,by omega⟩
 case step =>
  rintro x c st1 _ hx ⟨lo,rfl,g,hlo⟩
  dsimp only
  have gle:=g.le
  refine zaj (fun e=>wpS_pure ⟨lo,rfl,g,by omega⟩) (fun e => ?_)
  have sz:=g.perm.size_eq
  refine wpS_bind (countRun_ok C (zbN g.perm hS) g.kind (by omega) (by omega) fun n st2 c2 n1 n2 u2 => ?_)
  have keep:∀ {st2:SortSt},Chg lo a₀.size st1 st2->Stg rk kd a₀ st2 lo:=fun c2=>⟨c2.kind.trans g.kind,c2.fail.trans g.fail,c2.perm.trans g.perm,by rw [c2.pend]; exact g.stk.congr fun i b1 b2=>zaT (c2.out i (.inl b2)),g.le⟩
  have c2':Chg lo a₀.size st1 st2:=c2.wide (Nat.le_refl _) (by omega)
  have g2:=keep c2'
  have sz2:=g2.perm.size_eq
  dsimp only
  refine zaj (fun hm=>wpS_bind (wpS_lift (wpAny_rule ⟨rfl,wpS_bind (binSort_ok C (zbN g2.perm hS) g2.kind (by omega) (by omega) u2 fun st3 c3 u3 => ?_)⟩))) (fun hm => ?_)
  simp only [Bool.not_true,Bool.false_eq_true,if_false]
  have g3:=keep (c2'.trans (c3.wide (Nat.le_refl _) (by omega)))
  generalize hn3:min (a₀.size - lo) (minRun' a₀.size a₀.size 0)=n3 at u3 ⊢
  have n31:1<=n3:=by omega
  have n32:lo + n3<=a₀.size:=by omega
  rotate_left
  have g3:=g2
  have u3:=u2
  have n31:=n1
  have n32:lo + n<=a₀.size:=by omega
  clear c2 c2' u2 g2 n2 n1 hm sz2
  generalize st2=st3 at g3 u3 ⊢
  generalize n=n3 at u3 n31 n32 ⊢
  all_goals
   have push:∀ {st4:SortSt},Stg rk kd a₀ st4 lo->Up2 rk (arrOf st4) lo (lo + n3)->Stg rk kd a₀ (setPending st4 ((pendingOf st4).push (lo,n3,0))) (lo + n3):=fun {st4} g4 u4=>⟨g4.kind,g4.fail,g4.perm,by
    show Stk rk (arrOf st4) ((pendingOf st4).push (lo,n3,0)).toList 0 (lo + n3)
    rw [Array.toList_push]
    exact g4.stk.join ⟨rfl,n31,u4,rfl⟩,n32⟩
   refine wpS_bind (wpS_get ?_)
   cases hb:(pendingOf st3).back? with
   | none=>exact wpS_bind (wpS_modify (wpS_pure ⟨lo + n3,rfl,push g3 u3,by omega⟩))
   | some t =>
    obtain ⟨s1,n1',pp⟩:=t
    dsimp only
    refine wpS_bind (wpS_mono (wpS_forRange (I:=fun _ c st'=>c=(none,())/\Stg rk kd a₀ st' lo/\Up2 rk (arrOf st') lo (lo + n3)) (Q:=fun c st'=>c=(none,())/\Stg rk kd a₀ st' lo/\Up2 rk (arrOf st') lo (lo + n3)) ?_ (fun _ _ h=>h) ⟨rfl,g3,u3⟩) ?_)
    ·rintro y c st4 _ _ ⟨rfl,g4,u4⟩
     refine wpS_bind (wpS_get ?_)
     by_cases hps:(pendingOf st4).size > 1
     ·rw [if_pos hps]
      cases hq:(pendingOf st4)[(pendingOf st4).size - 2]? with
      | none=>exact wpS_pure ⟨rfl,g4,u4⟩
      | some t =>
       obtain ⟨t1,t2,older⟩:=t
       dsimp only
       refine zaj (fun _=>wpS_pure ⟨rfl,g4,u4⟩) (fun _=>wpS_bind (zcV C hS g4 (by omega) fun st5 g5 _ o5 => ?_))
       simp only [Bool.not_true,Bool.false_eq_true,if_false]
       refine wpS_pure ⟨rfl,g5,fun i j b1 b2 b3 => ?_⟩
       rw [zaT (o5 i b1),zaT (o5 j (by omega))]
       exact u4 i j b1 b2 b3
     ·rw [if_neg hps]
      exact wpS_pure ⟨rfl,g4,u4⟩
    ·rintro c st4 ⟨rfl,g4,u4⟩
     dsimp only
     refine wpS_bind (zck fun st5 k5 a5 q5 f5=>wpS_bind (wpS_modify (wpS_pure ⟨lo + n3,rfl,push (st4:=st5) ?_ ?_,by omega⟩)))
     ·refine ⟨k5.trans g4.kind,f5.trans g4.fail,by rw [a5]; exact g4.perm,?_,g4.le⟩
      rw [a5,q5]
      show Stk rk (arrOf st4) ((pendingOf st4).modify _ _).toList 0 lo
      rw [Array.toList_modify]
      refine Stk.mod ?_ g4.stk
      exact fun x=>⟨rfl,rfl⟩
     ·rw [a5]; exact u4
 case post =>
  rintro c st1 ⟨lo,rfl,g,rfl⟩
  dsimp only
  have l1:=g.stk.le
  rw [Array.length_toList] at l1
  refine wpS_bind (wpS_mono (wpS_forRange (I:=fun x c st'=>c=(none,())/\Stg rk kd a₀ st' a₀.size/\((pendingOf st').size<=1\/(pendingOf st').size + x<=a₀.size)) (Q:=fun c st'=>c=(none,())/\Stg rk kd a₀ st' a₀.size/\(pendingOf st').size<=1) ?_ ?_ ⟨rfl,g,.inr (by omega)⟩) ?_)
  ·rintro x c st2 _ hx ⟨rfl,g2,hp2⟩
   refine wpS_bind (wpS_get ?_)
   refine zaj (fun e=>wpS_pure ⟨rfl,g2,e⟩) (fun e => ?_)
   refine wpS_bind (zcV C hS g2 ?_ fun st5 g5 z5 o5 => ?_)
   ·by_cases hb:Option.any (fun x=>decide (x < Option.elim (pendingOf st2)[(pendingOf st2).size - 2 + 1]? 0 fun x=>x.2.1)) (if (pendingOf st2).size - 2 > 0 then Option.map (fun x=>x.2.1) (pendingOf st2)[(pendingOf st2).size - 2 - 1]? else none)=true
    ·rw [if_pos hb]; omega
    ·rw [if_neg hb]; omega
   ·simp only [Bool.not_true,Bool.false_eq_true,if_false]
    exact wpS_pure ⟨rfl,g5,by omega⟩
  ·rintro c st2 ⟨rfl,g2,hp2⟩
   exact ⟨rfl,g2,by omega⟩
  ·rintro c st2 ⟨rfl,g2,hp2⟩
   refine wpS_pure (q st2 g2.perm g2.fail ?_)
   have hs:=g2.stk
   have hl:(pendingOf st2).toList.length<=1:=by rw [Array.length_toList]; exact hp2
   match hm:(pendingOf st2).toList,hs,hl with
   | [],hs,_=>have hs:0=a₀.size:=hs; omega
   | [x],⟨b1,b2,b3,b4⟩,_ =>
    have b4:0 + x.2.1=a₀.size:=b4
    rwa [b4] at b3
end
end L2
namespace L2
open PySem PySem.Spec PyProof.Rows PySem.W
noncomputable def rkI:Keyed->Int:=fun k=>numOf k.1
section
variable {prog:Program} {w:World} {A:Around} {E:Value->Shared->Prop} {s:Shared}
theorem ranks_int:Ranks prog w A E s oneType' (fun k=>∃ n t,k.1 = .int n t) rkI:=⟨fun {x y st Q} hx hy hk q=>by
 obtain ⟨x1,x2⟩:=x
 obtain ⟨y1,y2⟩:=y
 obtain ⟨n,t,e⟩:=hx
 obtain ⟨m,u,e2⟩:=hy
 dsimp only at e e2
 subst e e2
 rw [lt'_eq]
 refine wpS_bind (wpS_get ?_)
 rw [hk,keyLt'_oneType]
 exact wpS_bind (wpS_lift (wpAny_attempt (oneLt_int ⟨rfl,wpS_pure q⟩)))⟩
theorem sortI {a:Addr} {vs:List Value} {ns:List Int} {n:Nat} {P:PySem.Fin->Shared->Prop} (ho:s.heap.get? a=some (seqObj "list" vs.toArray n)) (hI:IntsAre vs ns) (hb:vs.length<=sizeLine)
  (q:∀ (out:Array Value) (ns':List Int),IntsAre out.toList ns'->ns'.Perm ns->ns'.Pairwise (· <= ·)->P (.done (.ret .none)) { s with heap:=sortedHeap s.heap a vs out }) :
  wpAny (model prog w) A (Builtin.«list.sort» ⟨[.ref a],[]⟩) P E s:=by
 have fin:∀ st':SortSt,(arrOf st').Perm (pairsOf vs)->Up2 rkI (arrOf st') 0 (pairsOf vs).size->P (.done (.ret .none)) { s with heap:=sortedHeap s.heap a vs ((arrOf st').map (·.2)) }:=fun st' hp hs=>by
  obtain ⟨ns',b1,b2,b3⟩:=sorted_out hI hp (fun i j hij hj=>hs i j (Nat.zero_le _) hij hj)
  exact q _ ns' b1 b2 b3
 rw [list_sort_plain]; have hlt:=Heap.lt_size ho
 obtain ⟨e1,o1⟩:∃ e,(s.heap.update a (Obj.mapSeq fun _=>(#[]:Array Value))).get? a=some (seqObj "list" #[] e):=⟨_,get?_update_seq ho fun _ => #[]⟩
 have hz:vs.toArray.size=vs.length:=List.size_toArray
 refine wpAny_bind (listItems_at ho rfl (wpAny_bind (listUpdate_at ho rfl (wpAny_bind (seqEpoch_at o1 rfl (wpAny_bind (wpAny_newTuple (wpAny_bind (wpAny_newList (wpAny_holding ?_) (Nat.zero_le _))) (by show vs.length<=_; omega))))) (by rw [hz]; omega) (Nat.zero_le _))))
 have o6:(((s.heap.update a (Obj.mapSeq fun _=>(#[]:Array Value))).push (seqObj "tuple" vs.toArray 0)).push (seqObj "list" #[] 0)).get? a=some (seqObj "list" #[] e1):=Heap.get?_push_of_some _ (Heap.get?_push_of_some _ o1)
 show wpAny (model prog w) A _ P E { s with heap:=((s.heap.update a (Obj.mapSeq fun _=>(#[]:Array Value))).push (seqObj "tuple" vs.toArray 0)).push (seqObj "list" #[] 0) }; dsimp only
 by_cases h2:vs.toArray.size < 2
 ·rw [if_pos h2,if_pos h2]; refine wpAny_bind (wpAny_pure ?_)
  rw [StateT.run_pure]; refine wpAny_bind (wpAny_pure ?_)
  dsimp only
  refine wpAny_bind (seqEpoch_at o6 rfl (wpAny_bind (listUpdate_at o6 rfl ?_ (Nat.zero_le _) (by rw [Array.size_map]; show (pairsOf vs).size<=_; rw [pairsOf_size]; omega))))
  simp only [bne_self_eq_false,Bool.false_eq_true,if_false]
  refine wpAny_pure (fin (SortSt.mk' general' (vs.toArray.zip vs.toArray) #[] 7 none) (Array.Perm.refl _) fun i j _ hij hj => ?_)
  rw [pairsOf_size] at hj
  rw [show i=j by omega]; exact Int.le_refl _
 ·rw [if_neg h2,if_neg h2]
  have hkk:keyKind' vs.toArray=pure oneType':=by
   match vs,hI,h2 with
   | [],_,h2=>simp at h2
   | [_],_,h2=>simp at h2
   | v₁ :: v₂ :: r,hI,_=>exact keyKind_ints hI
  rw [hkk]
  refine wpAny_bind (wpAny_pure ?_)
  refine wpAny_bind (wpAny_mono (sortRuns_ok (ranks_int (E:=E)) (st:=SortSt.mk' oneType' (vs.toArray.zip vs.toArray) #[] 7 none) (Q:=fun _ st'=>(arrOf st').Perm (pairsOf vs)/\failedOf st'=none/\Up2 rkI (arrOf st') 0 (pairsOf vs).size) hI.intKeys rfl rfl rfl (by show 2<=(pairsOf vs).size; rw [pairsOf_size]; omega) fun st' c1 c2 c3=>⟨c1,c2,c3⟩) ?_ fun _ _ e=>e)
  rintro ⟨⟨⟩,st'⟩ s' ⟨rfl,hp,hf,hs⟩
  dsimp only
  refine wpAny_bind (seqEpoch_at o6 rfl (wpAny_bind (listUpdate_at o6 rfl ?_ (Nat.zero_le _) (by rw [Array.size_map,hp.size_eq,pairsOf_size]; omega))))
  rw [hf]
  simp only [bne_self_eq_false,Bool.false_eq_true,if_false]
  exact wpAny_pure (fin st' hp hs)
end
theorem zdl:∀ {l:List Value} {ns:List Int},l.length=ns.length->(∀ (j:Nat) (v:Value) (x:Int),l[j]?=some v->ns[j]?=some x->∃ t,v = .int x t)->IntsAre l ns
 | [],[],_,_ => .nil
 | v :: l,x :: ns,hl,h=>by
  obtain ⟨t,rfl⟩:=h 0 v x rfl rfl
  exact .cons _ _ (zdl (by simpa using hl) fun j u y e1 e2=>h (j + 1) u y (by simpa using e1) (by simpa using e2))
section
variable {X:Cx}
theorem call_sortedDI (hc:X.calm=true):CallR X (.builtin "sorted") (fun xs H Q=>∃ (a:Addr) (kvs:List (Key×V)) (ns:List Int),xs = [V.ref a]/\Rd H a (.dK kvs)/\kvs.map (·.1)=ns.map Sum.inl/\ns.length<=4096 /\
  ∀ p (ns':List Int),H p=none->ns'.Perm ns->ns'.Pairwise (· <= ·)->Q (.ref p) (upd H p (.lst (ns'.map V.int)))):=by
 intro pins s σ H xs us Q I r h
 obtain ⟨a,kvs,ns,rfl,hq,hk,hb,q⟩:=h
 obtain ⟨u,rfl,ru⟩:=zbq r
 cases ru
 obtain ⟨hz,lo,vs,kv,hD⟩:=(show ObjOk X.prog X.w H s.heap a (.dK kvs) from hq.ok I.hok)
 obtain ⟨ep,hat⟩:=hD.dictAt
 have hlen:vs.length=ns.length:=by
  have e1:=kv.length
  have e2:=congrArg List.length hk
  rw [List.length_map,List.length_map] at e2
  omega
 have big:(4096:Nat)<=sizeLine:=by decide
 refine Calls.call_function_entry kind_sorted plain_sorted entry_sorted (args_sorted1 _) ?_
 unfold Builtin.«sorted»
 refine wpAny_bind (m:=checkCount "sorted" 1 1 _) (wpAny_pure ?_)
 refine wpAny_bind (PySem.W.kdu_collect (A:=X.A.in1) (PySem.W.kdl_dict (knd:=mixKind X.prog X.w) (kvs:=vs) (ep:=ep) lo) (I.ok.hd hc) hat (by omega) fun h' tk acc hkeep hacc => ?_)
 have hl:acc.toList.length=vs.length:=by rw [Array.length_toList]; exact hacc.1
 have hS:IntsAre acc.toList ns:=by
  refine zdl (by omega) fun j v x e1 e2 => ?_
  obtain ⟨k,y,e3,hk2⟩:=hacc.2 j v (by rw [<- Array.getElem?_toList]; exact e1)
  obtain ⟨v',e4,_⟩:=kv.get e3
  have e5:(kvs.map (·.1))[j]?=some k:=by rw [List.getElem?_map,e4]; rfl
  rw [hk,List.getElem?_map,e2] at e5
  have e6:Sum.inl x=k:=Option.some.inj e5
  subst e6
  rcases zav (show keyIs (Sum.inl x) v=true from hk2) with ⟨i,t,e,e7⟩ | ⟨y,t,e,e7⟩
  ·cases e; exact ⟨t,e7⟩
  ·cases e
 refine wpAny_bind (wpAny_newList ?_ (by rw [hl]; omega))
 have hoL:(h'.push (seqObj "list" acc.toList.toArray 0)).get? h'.objs.size=some (seqObj "list" acc.toList.toArray 0):=Heap.get?_push_size _ rfl
 refine wpAny_bind (wpAny_holding (wpAny_call_entry slot_list_sort ⟨_,hoL,rfl⟩ entry_list_sort (sortI hoL hS (by omega) fun out ns' a1 a2 a3=>⟨_,rfl,?_⟩) (args_list_sort _)))
 refine wpAny_pure ⟨_,rfl,?_⟩
 obtain ⟨e,he⟩:=sortedHeap_at (out:=out) hoL
 have I1:Inv X pins σ H { s with heap:=h',toks:=tk }:=I.kept hkeep
 have I2:=Inv.laid (o := .lst (ns'.map V.int)) (a:=h'.objs.size) (h':=sortedHeap (h'.push (seqObj "list" acc.toList.toArray 0)) h'.objs.size acc.toList out) (t':=tk) I1 (fun b o hb=>by
  have lt:=Heap.lt_size hb
  rw [sortedHeap_old (Nat.ne_of_lt lt) (by rw [Heap.size_push]; exact Nat.lt_succ_of_lt lt)]
  exact Heap.get?_push_of_some _ hb) (Nat.le_refl _) (show ObjOk X.prog X.w _ _ _ (.lst (ns'.map V.int)) from ⟨by rw [List.length_map,a2.length_eq]; omega,_,e,zb0 a1,by rw [Array.toArray_toList]; exact he⟩)
 exact ⟨.ref h'.objs.size,_,I2,rfl,q _ ns' (I1.hok.fresh (Nat.le_refl _)) a2 a3⟩
end
end L2
namespace L2
open PySem PySem.Spec PyProof.Rows
noncomputable def behN (C:Combs) (l:List Nat):List Nat:=(List.range 128).filter fun s=>l.any fun t=>(stp C t).any fun p=>decide (p.2.toNat=s)
noncomputable def rowN (C:Combs):Nat->List Nat
 | 0 => [0]
 | k + 1=>behN C (rowN C k)
theorem beh_mem {C:Combs} {l:List Nat} {s:Nat}:s∈behN C l ↔ s < 128/\∃ t∈l,∃ p∈stp C t,p.2.toNat=s:=by
 unfold behN
 rw [List.mem_filter,List.mem_range]
 constructor
 ·rintro ⟨h,e⟩
  obtain ⟨t,ht,e⟩:=List.any_eq_true.mp e
  obtain ⟨p,hp,e⟩:=List.any_eq_true.mp e
  exact ⟨h,t,ht,p,hp,of_decide_eq_true e⟩
 ·rintro ⟨h,t,ht,p,hp,e⟩
  exact ⟨h,List.any_eq_true.mpr ⟨t,ht,List.any_eq_true.mpr ⟨p,hp,decide_eq_true e⟩⟩⟩
theorem zgs (C:Combs) (l:List Nat):(behN C l).Pairwise (· < ·):=List.Pairwise.sublist List.filter_sublist List.pairwise_lt_range
theorem zf2 (C:Combs) (l:List Nat):(behN C l).length<=128:=by
 have:=List.length_filter_le (fun s=>l.any fun t=>(stp C t).any fun p=>decide (p.2.toNat=s)) (List.range 128)
 rwa [List.length_range] at this
theorem zdv (C:Combs):∀ k,(∀ s∈rowN C k,s < 128)/\(rowN C k).length<=128
 | 0=>⟨fun s h=>by rw [show rowN C 0 = [0] from rfl,List.mem_singleton] at h; omega,by show 1<=128; decide⟩
 | k + 1=>⟨fun s h=>(beh_mem.mp h).1,zf2 C _⟩
theorem beh_keys {C:Combs} (g:GC C) {l:List Nat} (hl:∀ t∈l,t < 128) {rs:List Int} (nd:rs.Nodup) (hm:∀ n,n∈rs ↔ ∃ t∈l,∃ p∈stp C t,p.2=n):rs.Perm ((behN C l).map fun s=>((s:Nat):Int)):=by
 refine (List.perm_ext_iff_of_nodup nd ?_).mpr fun n => ?_
 ·refine zaW ?_
  rw [List.pairwise_map]
  exact (zgs C l).imp fun h=>by omega
 ·rw [hm,List.mem_map]
  constructor
  ·rintro ⟨t,ht,p,hp,rfl⟩
   have:=zcu g (hl t ht) hp
   exact ⟨p.2.toNat,beh_mem.mpr ⟨this.2,t,ht,p,hp,rfl⟩,by omega⟩
  ·rintro ⟨s,hs,rfl⟩
   obtain ⟨h1,t,ht,p,hp,e⟩:=beh_mem.mp hs
   have:=zcu g (hl t ht) hp
   exact ⟨t,ht,p,hp,by omega⟩
theorem beh_sorted (C:Combs) (l:List Nat):((behN C l).map fun s=>((s:Nat):Int)).Pairwise (· <= ·):=by
 rw [List.pairwise_map]
 exact (zgs C l).imp fun h=>by omega
theorem zeP {C:Combs}:∀ {k s j:Nat},s∈rowN C k->tr (rowAt C j) s=true->tr (rowAt C (j + k)) 0=true
 | 0,s,j,h,e=>by rw [show rowN C 0 = [0] from rfl,List.mem_singleton] at h; rwa [h] at e
 | k + 1,s,j,h,e=>by
  obtain ⟨h1,t,ht,p,hp,e2⟩:=beh_mem.mp h
  have:tr (rowAt C (j + 1)) t=true:=by
   show tr (nxtRow C (rowAt C j)) t=true
   rw [zbS ((zdv C k).1 t ht)]
   exact List.any_eq_true.mpr ⟨p,hp,by rw [e2]; exact e⟩
  have:=zeP ht this
  rwa [show j + 1 + k=j + (k + 1) by omega] at this
theorem zeO {C:Combs} (g:GC C) {m k:Nat} (h:tr (rowAt C m) 0=false) (hk:rowN C k ≠ []):k < m:=by
 rcases Nat.lt_or_ge k m with z | z
 ·exact z
 ·obtain ⟨s,hs⟩:=List.exists_mem_of_ne_nil _ hk
  have:=zeP hs (zel ((zdv C k).1 s hs))
  rw [Nat.zero_add,show k=m + (k - m) by omega] at this
  rw [zfl g (by decide) _ this] at h
  cases h
noncomputable def RowsN (H:Hp) (ws:List V) (C:Combs) (m:Nat):Prop:=ws.length=m + 1/\∀ i:Nat,i<=m->∃ q,ws[i]?=some (.ref q)/\H q=some (.lst ((rowN C i).map fun s=>V.int (s:Nat)))
theorem RowsN.same {H H':Hp} {ws:List V} {C:Combs} {m:Nat} (r:RowsN H ws C m) (s:Same H H'):RowsN H' ws C m:=⟨r.1,fun i h=>let ⟨q,a,b⟩:=r.2 i h; ⟨q,a,s _ _ b⟩⟩
theorem RowsN.ne {H:Hp} {ws:List V} {C:Combs} {m:Nat} (r:RowsN H ws C m) {p q:Addr} {bs:List Nat} (hp:H p=some (.lst ws)) (hq:H q=some (.lst (bs.map fun s=>V.int (s:Nat)))):q≠p:=fun z=>by
 rw [z,hp] at hq
 obtain ⟨qa,e,_⟩:=r.2 0 (Nat.zero_le _)
 injection hq with hq
 injection hq with hq
 rw [hq,List.getElem?_map] at e
 cases h:bs[0]? with
 | none=>rw [h] at e; cases e
 | some b=>rw [h] at e; cases e
theorem RowsN.snoc {H:Hp} {ws:List V} {C:Combs} {m:Nat} (r:RowsN H ws C m) {p q:Addr} (hp:H p=some (.lst ws)) (hq:H q=some (.lst ((rowN C (m + 1)).map fun s=>V.int (s:Nat)))):RowsN (upd H p (.lst (ws ++ [.ref q]))) (ws ++ [.ref q]) C (m + 1):=by
 refine ⟨by rw [List.length_append,r.1]; rfl,fun i hi => ?_⟩
 by_cases e:i=m + 1
 ·subst e
  exact ⟨q,by rw [List.getElem?_append_right (by rw [r.1]; omega),r.1]; simp,by rw [zah (r.ne hp hq)]; exact hq⟩
 ·obtain ⟨qa,e1,e2⟩:=r.2 i (by omega)
  exact ⟨qa,by rw [List.getElem?_append_left (by rw [r.1]; omega)]; exact e1,by rw [zah (r.ne hp e2)]; exact e2⟩
theorem putK_keys {κ : Type} [DecidableEq κ] (kvs:List (κ × V)) (k : κ) (v:V):(putK kvs k v).map (·.1)=if k∈kvs.map (·.1) then kvs.map (·.1) else kvs.map (·.1) ++ [k]:=by
 unfold putK
 by_cases h:(kvs.any fun kv=>decide (kv.1=k))=true
 ·rw [if_pos h,if_pos (valV_mem.mp (by rw [<- za8]; exact h)),List.map_map]
  refine List.map_congr_left fun kv _ => ?_
  show (if kv.1=k then (kv.1,v) else kv).1=kv.1
  split <;> rfl
 ·rw [if_neg h,if_neg (fun z=>h (by rw [za8]; exact valV_mem.mpr z)),List.map_append]
  rfl
noncomputable def GrL (H:Hp) (kvs:List (List Key×V)) (ks:Combs) (L:List Nat):Prop:=Paired (fun (s:Nat) (kv:List Key×V)=>kv.1=akey s/\∃ q vs,kv.2 = .ref q/\H q=some (.lst vs)/\GoesR H vs (goesOf ks (aheadOf (s:Int)))) L kvs
theorem GrL.mono {H H':Hp} {kvs:List (List Key×V)} {ks:Combs} {L:List Nat} (r:GrL H kvs ks L) (m:∀ kv∈kvs,∀ q vs,kv.2 = .ref q->H q=some (.lst vs)->H' q=some (.lst vs)) (mt:∀ q xs,H q=some (.tup xs)->H' q=some (.tup xs)):GrL H' kvs ks L:=by
 induction r with
 | nil=>exact .nil
 | cons h _ ih =>
  obtain ⟨a,q,vs,b,c,d⟩:=h
  exact .cons ⟨a,q,vs,b,m _ List.mem_cons_self q vs b c,d.mono mt⟩ (ih fun kv hkv=>m kv (List.mem_cons_of_mem _ hkv))
theorem GrL.same {H H':Hp} {kvs:List (List Key×V)} {ks:Combs} {L:List Nat} (r:GrL H kvs ks L) (s:Same H H'):GrL H' kvs ks L:=r.mono (fun _ _ _ _ _ e=>s _ _ e) fun _ _ e=>s _ _ e
theorem GrL.len {H:Hp} {kvs:List (List Key×V)} {ks:Combs} {L:List Nat} (r:GrL H kvs ks L):kvs.length=L.length:=(Paired.length r).symm
theorem GrL.keys {H:Hp} {kvs:List (List Key×V)} {ks:Combs} {L:List Nat} (r:GrL H kvs ks L):kvs.map (·.1)=L.map akey:=by
 induction r with
 | nil=>rfl
 | cons h _ ih=>rw [List.map_cons,List.map_cons,ih,h.1]
theorem akeys_nd {L:List Nat} (nd:L.Nodup) (lt:∀ s∈L,s < 128):(L.map akey).Nodup:=by
 rw [List.nodup_iff_pairwise_ne,List.pairwise_map]
 rw [List.nodup_iff_pairwise_ne] at nd
 exact List.Pairwise.imp_of_mem (fun {a b} ha hb hab e=>hab (zcF (lt a ha) (lt b hb) e)) nd
theorem GrL.val {H:Hp} {kvs:List (List Key×V)} {ks:Combs} {L:List Nat} (r:GrL H kvs ks L) (nd:L.Nodup) (lt:∀ s∈L,s < 128) {s:Nat} (hs:s∈L):∃ q vs,valV kvs (akey s)=some (.ref q)/\H q=some (.lst vs)/\GoesR H vs (goesOf ks (aheadOf (s:Int))):=by
 obtain ⟨i,hi,rfl⟩:=List.getElem_of_mem hs
 obtain ⟨kv,e1,e2,q,vs,e3,e4,e5⟩:=Paired.at r (List.getElem?_eq_getElem hi)
 refine ⟨q,vs,?_,e4,e5⟩
 rw [<- e3]
 exact zfj (by rw [r.keys]; exact akeys_nd nd lt) (by rw [e1,<- e2])
theorem GrL.has {H:Hp} {kvs:List (List Key×V)} {ks:Combs} {L:List Nat} (r:GrL H kvs ks L) (lt:∀ s∈L,s < 128) {s:Nat} (hs:s < 128):(valV kvs (akey s)).isSome=decide (s∈L):=by
 rw [Bool.eq_iff_iff,valV_mem,r.keys,decide_eq_true_eq,List.mem_map]
 exact ⟨fun ⟨j,hj,e⟩=>zcF (lt j hj) hs e ▸ hj,fun h=>⟨s,h,rfl⟩⟩
theorem GrL.snoc {H:Hp} {kvs:List (List Key×V)} {ks:Combs} {L:List Nat} {s:Nat} {q:Addr} {vs:List V} (r:GrL H kvs ks L) (h1:H q=some (.lst vs)) (h2:GoesR H vs (goesOf ks (aheadOf (s:Int)))):GrL H (kvs ++ [(akey s,.ref q)]) ks (L ++ [s]):=Paired.snoc r ⟨rfl,q,vs,rfl,h1,h2⟩
noncomputable def ClsS (C:Combs) (L:List Nat):Prop:=(∀ s∈L,s < 128)/\∀ s∈L,∀ p∈stp C s,p.2.toNat∈L
theorem hashes_nd {L:List Nat} (nd:L.Nodup) (lt:∀ s∈L,s < 128):((L.map fun (s:Nat)=>aheadOf (s:Int)).map hshI).Nodup:=by
 rw [List.map_map,List.nodup_iff_pairwise_ne,List.pairwise_map]
 rw [List.nodup_iff_pairwise_ne] at nd
 refine List.Pairwise.imp_of_mem (fun {a b} ha hb hab e=>hab ?_) nd
 refine (List.getElem?_inj (l:=(List.range 128).map fun (n:Nat)=>hshI (aheadOf (n:Int))) (by rw [List.length_map,List.length_range]; exact lt a ha) zcA).mp ?_
 rw [List.getElem?_map,List.getElem?_map,List.getElem?_range (lt a ha),List.getElem?_range (lt b hb),Option.map_some,Option.map_some]
 exact congrArg some e
theorem akeysL_kI (L:List Nat):L.map akey=(L.map fun (s:Nat)=>aheadOf (s:Int)).map kI:=by rw [List.map_map]; rfl
noncomputable def lv (C:Combs) (L:List Nat) (j:Nat):List Nat:=L.filter fun s=>tr (rowAt C j) s
theorem zeq {C:Combs} {L:List Nat} (lt:∀ s∈L,s < 128):lv C L 0=L:=List.filter_eq_self.mpr fun s hs=>zel (lt s hs)
theorem lv_le {C:Combs} (g:GC C) {L:List Nat} (lt:∀ s∈L,s < 128) (j:Nat):(lv C L (j + 1)).length<=(lv C L j).length:=by
 unfold lv
 rw [<- List.countP_eq_length_filter,<- List.countP_eq_length_filter]
 exact List.countP_mono_left fun s hs h=>zcm g j s (lt s hs) h
theorem zcy {p q:Nat->Bool}:∀ {L:List Nat},(∀ s∈L,p s=true->q s=true)->(L.filter p).length=(L.filter q).length->∀ s∈L,p s=q s
 | [],_,_,s,h=>by cases h
 | x :: L,hm,hl,s,h=>by
  have hm':∀ s∈L,p s=true->q s=true:=fun s hs=>hm s (List.mem_cons_of_mem _ hs)
  have le:(L.filter p).length<=(L.filter q).length:=by
   rw [<- List.countP_eq_length_filter,<- List.countP_eq_length_filter]
   exact List.countP_mono_left hm'
  rw [List.filter_cons,List.filter_cons] at hl
  have h0:=hm x List.mem_cons_self
  have key:p x=q x/\(L.filter p).length=(L.filter q).length:=by
   cases hp:p x with
   | true=>rw [hp,h0 hp] at hl; simp at hl; exact ⟨(h0 hp).symm,hl⟩
   | false =>
    cases hq:q x with
    | true=>rw [hp,hq] at hl; simp at hl; omega
    | false=>rw [hp,hq] at hl; simp at hl; exact ⟨rfl,hl⟩
  rcases List.mem_cons.mp h with rfl | h
  ·exact key.1
  ·exact zcy hm' key.2 s h
theorem lv_fix {C:Combs} (g:GC C) {L:List Nat} (c:ClsS C L) {i:Nat} (h:(lv C L (i + 1)).length=(lv C L i).length):∀ s∈L,∀ k,tr (rowAt C (i + k)) s=tr (rowAt C i) s:=by
 have h1:=zcy (fun s hs e=>zcm g i s (c.1 s hs) e) h
 intro s hs k
 induction k generalizing s with
 | zero=>rfl
 | succ k ih =>
  show tr (nxtRow C (rowAt C (i + k))) s=_
  rw [<- h1 s hs]
  show _=tr (nxtRow C (rowAt C i)) s
  rw [zbS (c.1 s hs),zbS (c.1 s hs),Bool.eq_iff_iff,List.any_eq_true,List.any_eq_true]
  constructor
  ·rintro ⟨p,hp,e⟩; exact ⟨p,hp,by rw [<- ih _ (c.2 s hs p hp)]; exact e⟩
  ·rintro ⟨p,hp,e⟩; exact ⟨p,hp,by rw [ih _ (c.2 s hs p hp)]; exact e⟩
theorem zgh {C:Combs} {L:List Nat} {i:Nat} (h:∀ s∈L,∀ k,tr (rowAt C (i + k)) s=tr (rowAt C i) s) {m:Nat} (hm:nxtRow C (rowAt C m)=rowAt C m) {s:Nat} (hs:s∈L):tr (rowAt C i) s=tr (rowAt C m) s:=by
 rcases Nat.le_total i m with e | e
 ·rw [show m=i + (m - i) by omega,h s hs]
 ·rw [show i=m + (i - m) by omega,zdV hm]
theorem zgE {C:Combs} {L:List Nat} {lvs:List (List Key×V)} {j:Nat} (lt:∀ s∈L,s < 128) (h:lvs.map (·.1)=(lv C L j).map akey) {s:Nat} (hs:s∈L):(valV lvs (akey s)).isSome=tr (rowAt C j) s:=by
 rw [Bool.eq_iff_iff,valV_mem,h,List.mem_map]
 constructor
 ·rintro ⟨t,ht,e⟩
  obtain ⟨h1,h2⟩:=List.mem_filter.mp ht
  rw [<- zcF (lt t h1) (lt s hs) e]
  exact h2
 ·exact fun e=>⟨s,List.mem_filter.mpr ⟨hs,e⟩,rfl⟩
theorem wk_go {C:Combs} (g:GC C) {row:List Bool} (hr:nxtRow C row=row) {s:Nat} (hs:s < 128) (ht:tr row s=true) (k:Nat) :
  ((0:Int)∈aheadOf (wk C row s k:Int)/\wn C row s k=Str.ofString "" /\ aheadOf (wk C row s (k + 1):Int)=afterOf (aheadOf (wk C row s k:Int)) [])\/((0:Int) ∉ aheadOf (wk C row s k:Int)/\∃ c∈C,wn C row s k=c.1/\meets (aheadOf (wk C row s k:Int)) c.2=false/\aheadOf (wk C row s (k + 1):Int)=afterOf (aheadOf (wk C row s k:Int)) c.2):=by
 have hlt:=(zfh g hr hs ht k).1
 have hm:=wk_mem g hr hs ht k
 rw [<- zbn hlt g] at hm
 obtain ⟨p,hp,e⟩:=List.mem_map.mp hm
 obtain ⟨_,k2,k3,_⟩:=zdH hlt g hp
 injection e with e1 e2
 have e3:p.2=aheadOf (wk C row s (k + 1):Int):=by
  have:=ze3 k3
  rw [this,e2]
  congr 1
 unfold goesOf at hp
 by_cases h0:(0:Int)∈aheadOf (wk C row s k:Int)
 ·rw [if_pos h0] at hp
  have hp:=List.mem_singleton.mp hp
  refine .inl ⟨h0,?_,?_⟩
  ·rw [<- e1,hp]
  ·rw [<- e3,hp]
 ·rw [if_neg h0] at hp
  obtain ⟨c,hc,rfl⟩:=List.mem_map.mp hp
  obtain ⟨hc1,hc2⟩:=List.mem_filter.mp hc
  exact .inr ⟨h0,c,hc1,e1.symm,by simpa using hc2,e3.symm⟩
noncomputable def ov (al:Nat->Nat->Bool) (i p:Nat):Nat:=if p < i then 1 else ind (al i (p - i))
section
variable {al ta:Nat->Nat->Bool}
noncomputable def cn (nm:Nat->Str) (i:Nat):Nat:=(laid nm i).length
end
end L2
namespace L2
open PySem PySem.Spec PyProof.Rows PySem.W
section
variable {prog:Program} {w:World} {A:Around} {E:Value->Shared->Prop} {s:Shared}
end
section
variable {prog:Program} {w:World} {A:Around} {E:Value->Shared->Prop} {s:Shared}
end
section
variable {prog:Program} {w:World} {A:Around} {E:Value->Shared->Prop} {s:Shared} {d:Addr} {o:Obj} {es:Array DictEntry} {ep:Nat}
end
noncomputable def TupsR (H:Hp) (nss:List (List Int)) (ws:List V):Prop:=Paired (fun (ns:List Int) (v:V)=>∃ q,v = .ref q/\H q=some (.tup (ns.map V.int))) nss ws
section
variable {X:Cx}
end
section
variable {X:Cx}
end
end L2
set_option maxHeartbeats 4000000
namespace L2
open PySem PySem.Spec PyProof.Rows PySem.W
section
variable {prog:Program} {w:World} {A:Around} {E:Value->Shared->Prop} {s:Shared}
end
section
variable {prog:Program} {w:World} {A:Around} {E:Value->Shared->Prop} {s:Shared}
end
section
variable {prog:Program} {w:World} {A:Around} {E:Value->Shared->Prop} {s:Shared}
end
section
variable {X:Cx}
end
end L2
namespace L2
open PySem PySem.Spec PyProof.Rows
section
variable {X:Cx} {pins:List (Addr×Obj)} {σ : St} {H:Hp} {s:Shared} {h':Heap}
end
end L2
namespace Att
open PySem PySem.W PySem.Calls PyProof.Rows
end Att
namespace L2
open PySem PySem.Spec PyProof.Rows
section
variable {X:Cx}
end
noncomputable def hit (C:Combs) (x:Nat×Str) (q:Nat):Bool:=decide (x.1<=q) && decide (((q - x.1:Nat):Int)∈tkOf C x.2)
section
variable {P:Program} {w:World} {A:Around} {E:Value->Shared->Prop} {s:Shared}
theorem zdQ {M:Model} {n:Nat} {ks:List Key} {a:Addr} {Q:Bool->Shared->Prop} (hk:IsTupleKey (mixKind P w) s.heap ks a) (q:Q true s):wpAny M A (eqIsQuiet (n + 1) (.ref a)) Q E s:=by
 have ty:=hk.typeIs
 obtain ⟨ob,its,m,e1,_,e3,r⟩:=hk
 unfold eqIsQuiet
 refine wpAny_bind (wpAny_specialOf ty F.slot_tuple_eq.lookup ?_)
 change wpAny M A (isInstance (Value.ref a) (.type "tuple") >>= fun c=>_) Q E s
 refine wpAny_bind (wpAny_isInstance ty isSubtype_tuple_tuple ?_)
 simp only [Bool.not_true,Bool.false_eq_true,if_false]
 refine wpAny_bind (wpAny_seqItems e1 e3 (wpAny_bind ?_))
 change wpAny M A (forIn its _ _) _ E s
 rw [<- Array.forIn_toList]
 refine wpAny_forIn_list _ (fun rest r s'=>r.1=none/\s'=s/\∀ v∈rest,carriedByValue v=true) _ ?_ ?_ _ _ ⟨rfl,rfl,r.byValue⟩
 ·rintro v rest r s' ⟨_,rfl,hv⟩
  rw [eqIsQuiet_byValue _ (hv v List.mem_cons_self)]
  refine wpAny_bind (wpAny_pure ?_)
  simp only [Bool.not_true,Bool.false_eq_true,if_false]
  exact wpAny_pure ⟨rfl,rfl,fun u hu'=>hv u (List.mem_cons_of_mem _ hu')⟩
 ·rintro ⟨r1,r2⟩ s' ⟨hr,rfl,_⟩
  dsimp only at hr
  subst hr
  exact wpAny_pure q
end
noncomputable abbrev NX:=List (List Key)×Addr×V
section
variable {P:Program} {w:World} {H:Hp} {h:Heap} {a b:Addr} {xs:List NX} {ks:List (List Key)}
end
section
variable {X:Cx} {pins:List (Addr×Obj)} {σ : St} {H:Hp} {s:Shared} {a b:Addr} {xs:List NX} {ks:List (List Key)} {A:Around} {E:Value->Shared->Prop}
end
section
variable {X:Cx} {o i e value:Expr} {pos pos' tpos:Pos} {td ty tv:TE}
end
section
variable {X:Cx} {o i e value:Expr} {pos pos' tpos:Pos} {td ty tv:TE}
end
noncomputable def st1 (C:Combs) (s t:Nat):Prop:=∃ p∈stp C s,p.2.toNat=t
namespace Tab
theorem zdL {xs:Array Nat} {j:Nat} (up:xs.toList.Pairwise (· < ·)):∀ (f lo hi:Nat),hi - lo<=f->lo<=hi->hi<=xs.size->(∀ i,i < lo->xs.getD i 0 < j)->(∀ i,hi<=i->i < xs.size->j<=xs.getD i 0) ->
  ∃ r,SetTable.below.go xs j f lo hi=r/\r<=xs.size/\(∀ i,i < r->xs.getD i 0 < j)/\(∀ i,r<=i->i < xs.size->j<=xs.getD i 0)
 | 0,lo,hi,h1,h2,h3,h4,h5=>⟨lo,rfl,Nat.le_trans h2 h3,h4,fun i a b=>h5 i (Nat.le_trans (Nat.le_of_sub_eq_zero (Nat.le_zero.mp h1)) a) b⟩
 | f + 1,lo,hi,h1,h2,h3,h4,h5=>by
  have mono:∀ a b,a < b->b < xs.size->xs.getD a 0 < xs.getD b 0:=fun a b hab hb=>by
   have:=List.pairwise_iff_getElem.mp up a b (by simpa using Nat.lt_trans hab hb) (by simpa using hb) hab
   simpa [Array.getD,hb,Nat.lt_trans hab hb] using this
  by_cases c:lo < hi
  ·have hm:(lo + hi) / 2 < hi:=by omega
   have hs:(lo + hi) / 2 < xs.size:=by omega
   have eg:xs.getD ((lo + hi) / 2) j=xs.getD ((lo + hi) / 2) 0:=by simp [Array.getD,hs]
   have ego:SetTable.below.go xs j (f + 1) lo hi=if xs.getD ((lo + hi) / 2) 0 < j then SetTable.below.go xs j f ((lo + hi) / 2 + 1) hi else SetTable.below.go xs j f lo ((lo + hi) / 2):=by
    rw [<- eg]
    exact if_pos c
   rw [ego]
   by_cases d:xs.getD ((lo + hi) / 2) 0 < j
   ·rw [if_pos d]
    refine zdL up f ((lo + hi) / 2 + 1) hi (by omega) (by omega) h3 (fun i hi' => ?_) h5
    by_cases e:i=(lo + hi) / 2
    ·rw [e]; exact d
    ·exact Nat.lt_trans (mono i _ (by omega) (by omega)) d
   ·rw [if_neg d]
    refine zdL up f lo ((lo + hi) / 2) (by omega) (by omega) (by omega) h4 (fun i h6 h7 => ?_)
    by_cases e:i=(lo + hi) / 2
    ·rw [e]; omega
    ·have:=mono ((lo + hi) / 2) i (by omega) h7
     omega
  ·exact ⟨lo,if_neg c,by omega,h4,fun i a b=>h5 i (by omega) b⟩
theorem zdo {xs:Array Nat} (j:Nat) (up:xs.toList.Pairwise (· < ·)):SetTable.below xs j<=xs.size/\(∀ i,i < SetTable.below xs j->xs.getD i 0 < j)/\(∀ i,SetTable.below xs j<=i->i < xs.size->j<=xs.getD i 0):=by
 obtain ⟨r,e,h⟩:=zdL (j:=j) up xs.size 0 xs.size (by omega) (Nat.zero_le _) (Nat.le_refl _) (fun i h=>by omega) (fun i h1 h2=>by omega)
 unfold SetTable.below
 rw [e]
 exact h
theorem slot_in {t:SetTable} {j:Nat} (up:t.place.toList.Pairwise (· < ·)) (h:j∈t.place.toList):∃ i,t.slot j = .live i/\t.place[i]?=some j:=by
 obtain ⟨h1,h2,h3⟩:=zdo j up
 obtain ⟨i,hi⟩:=List.mem_iff_getElem?.mp h
 have hi':t.place[i]?=some j:=by rw [<- Array.getElem?_toList]; exact hi
 obtain ⟨hl,hv⟩:=Array.getElem?_eq_some_iff.mp hi'
 have hg:t.place.getD i 0=j:=by simp [Array.getD,hl,hv]
 have e:SetTable.below t.place j=i:=by
  rcases Nat.lt_trichotomy (SetTable.below t.place j) i with c | c | c
  ·have hb:SetTable.below t.place j < t.place.size:=by omega
   have a:=h3 _ (Nat.le_refl _) hb
   have:=List.pairwise_iff_getElem.mp up (SetTable.below t.place j) i (by simpa using hb) (by simpa using hl) c
   have g:t.place.getD (SetTable.below t.place j) 0 < t.place.getD i 0:=by simpa [Array.getD,hb,hl] using this
   omega
  ·exact c
  ·have:=h2 i c
   omega
 refine ⟨i,?_,hi'⟩
 unfold SetTable.slot
 dsimp only
 rw [e,hi',if_pos (by simp)]
theorem slot_out {t:SetTable} {j:Nat} (hd:t.dummies = #[]) (h:j ∉ t.place.toList):t.slot j = .empty:=by
 unfold SetTable.slot
 dsimp only
 rw [if_neg,if_neg]
 ·rw [hd]
  unfold SetTable.has
  simp
 ·intro c
  have c':=eq_of_beq c
  exact h (List.mem_iff_getElem?.mpr ⟨_,by rw [<- c',Array.getElem?_toList]⟩)
noncomputable def adv (mask:Nat) (p:SetTable.Probe):SetTable.Probe :=
 if p.more > 0 then { p with j:=p.j + 1,more:=p.more - 1 } else
 let q:=SetTable.leap mask p.i p.perturb
 { p with j:=q.1,more:=SetTable.runEnd mask q.1 - q.1,i:=q.1,perturb:=q.2 }
noncomputable def start (mask:Nat) (h:Int):SetTable.Probe:={ j:=SetTable.bits h % (mask + 1),more:=SetTable.runEnd mask (SetTable.bits h % (mask + 1)) - SetTable.bits h % (mask + 1),i:=SetTable.bits h % (mask + 1),perturb:=SetTable.bits h,dummy:=none }
noncomputable def nth (mask:Nat) (h:Int):Nat->SetTable.Probe
 | 0=>start mask h
 | n + 1=>adv mask (nth mask h n)
theorem zd1 (mask:Nat) (h:Int):∀ n,(nth mask h n).dummy=none
 | 0=>rfl
 | n + 1=>by
  have:=zd1 mask h n
  unfold nth adv
  split <;> exact this
noncomputable def Reach (mask:Nat) (occ:Nat->Prop) (h:Int) (j:Nat):Prop:=∃ m,(nth mask h m).j=j/\∀ m' < m,occ (nth mask h m').j
theorem Reach.mono {mask:Nat} {occ occ':Nat->Prop} {h:Int} {j:Nat} (r:Reach mask occ h j) (s:∀ j,occ j->occ' j):Reach mask occ' h j :=
 let ⟨m,e,a⟩:=r; ⟨m,e,fun m' hm=>s _ (a m' hm)⟩
noncomputable def lp (mask:Nat) (h:Int):Nat->Nat×Nat
 | 0=>(SetTable.bits h % (mask + 1),SetTable.bits h)
 | n + 1=>SetTable.leap mask (lp mask h n).1 (lp mask h n).2
noncomputable def atLeap (mask:Nat) (q:Nat×Nat):SetTable.Probe:={ j:=q.1,more:=SetTable.runEnd mask q.1 - q.1,i:=q.1,perturb:=q.2,dummy:=none }
theorem run_le (mask i:Nat):SetTable.runEnd mask i - i<=9:=by unfold SetTable.runEnd; split <;> omega
theorem zcU {mask:Nat} {h:Int} {m:Nat} {q:Nat×Nat} (e:nth mask h m=atLeap mask q):∀ k,k<=SetTable.runEnd mask q.1 - q.1->nth mask h (m + k)={ atLeap mask q with j:=q.1 + k,more:=SetTable.runEnd mask q.1 - q.1 - k }
 | 0,_=>by rw [Nat.add_zero,e]; rfl
 | k + 1,hk=>by
  rw [<- Nat.add_assoc]
  show adv mask (nth mask h (m + k))=_
  rw [zcU e k (by omega)]
  unfold adv
  rw [if_pos (show SetTable.runEnd mask q.1 - q.1 - k > 0 by omega)]
  have:SetTable.runEnd mask q.1 - q.1 - k - 1=SetTable.runEnd mask q.1 - q.1 - (k + 1):=by omega
  simp only [this,Nat.add_assoc]
theorem zeZ {mask:Nat} {h:Int} {m:Nat} {q:Nat×Nat} (e:nth mask h m=atLeap mask q):nth mask h (m + (SetTable.runEnd mask q.1 - q.1) + 1)=atLeap mask (SetTable.leap mask q.1 q.2):=by
 show adv mask (nth mask h (m + _))=_
 rw [zcU e _ (Nat.le_refl _)]
 unfold adv
 rw [if_neg (by simp)]
 rfl
theorem zgD (mask:Nat) (h:Int):∀ n,∃ m,m<=10 * n/\nth mask h m=atLeap mask (lp mask h n)
 | 0=>⟨0,Nat.le_refl _,rfl⟩
 | n + 1=>by
  obtain ⟨m,hm,e⟩:=zgD mask h n
  have:=run_le mask (lp mask h n).1
  exact ⟨_,by omega,zeZ e⟩
theorem zfJ (mask:Nat) (h:Int):∀ n,(lp mask h n).2=SetTable.bits h / 32 ^ n
 | 0=>by simp [lp]
 | n + 1=>by
  show (lp mask h n).2 / 32=_
  rw [zfJ mask h n,Nat.div_div_eq_div_mul,Nat.pow_succ]
theorem bits_lt (h:Int):SetTable.bits h < 2 ^ 64:=by
 unfold SetTable.bits
 omega
theorem lp_pert0 (mask:Nat) (h:Int) (n:Nat):(lp mask h (13 + n)).2=0:=by
 rw [zfJ]
 refine Nat.div_eq_of_lt (Nat.lt_of_lt_of_le (bits_lt h) ?_)
 calc 2 ^ 64<=32 ^ 13:=by decide
  _<=32 ^ (13 + n):=Nat.pow_le_pow_right (by decide) (by omega)
noncomputable def five (N:Nat):Nat->Nat->Nat
 | 0,i=>i
 | k + 1,i=>(five N k i * 5 + 1) % N
theorem zcj (N:Nat):∀ a b i,five N (a + b) i=five N a (five N b i)
 | 0,b,i=>by rw [Nat.zero_add]; rfl
 | a + 1,b,i=>by
  rw [show a + 1 + b=a + b + 1 by omega]
  show (five N (a + b) i * 5 + 1) % N=(five N a (five N b i) * 5 + 1) % N
  rw [zcj N a b i]
theorem zfK (mask:Nat) (h:Int):∀ k,(lp mask h (13 + k)).1=five (mask + 1) k (lp mask h 13).1
 | 0=>rfl
 | k + 1=>by
  show ((lp mask h (13 + k)).1 * 5 + 1 + (lp mask h (13 + k)).2 / 32) % (mask + 1)=_
  rw [lp_pert0,zfK mask h k]
  rfl
theorem zgC (mask:Nat) (h:Int):∀ n,(lp mask h n).1<=mask
 | 0=>Nat.le_of_lt_succ (Nat.mod_lt _ (Nat.succ_pos _))
 | n + 1=>Nat.le_of_lt_succ (Nat.mod_lt _ (Nat.succ_pos _))
noncomputable def orb (N:Nat):Nat->Nat->List Nat
 | 0,_ => []
 | n + 1,i=>i :: orb N n ((i * 5 + 1) % N)
theorem zeU {N:Nat}:∀ {n i j:Nat},j∈orb N n i->∃ k,k < n/\five N k i=j
 | n + 1,i,j,h=>by
  rcases List.mem_cons.mp h with e | h'
  ·exact ⟨0,by omega,e.symm⟩
  ·obtain ⟨k,hk,e⟩:=zeU h'
   exact ⟨k + 1,by omega,by rw [zcj N k 1 i]; exact e⟩
noncomputable def bm:List Nat->Nat
 | []=>0
 | x :: l=>bm l ||| 2 ^ x
theorem zgr {j:Nat}:∀ {l:List Nat},(bm l).testBit j=true->j∈l
 | [],h=>by simp [bm] at h
 | x :: l,h=>by
  unfold bm at h
  rw [Nat.testBit_or,Nat.testBit_two_pow,Bool.or_eq_true,decide_eq_true_eq] at h
  rcases h with h | h
  ·exact List.mem_cons_of_mem _ (zgr h)
  ·rw [h]; exact List.mem_cons_self
noncomputable def full (N:Nat):Bool:=Nat.beq (bm (orb N N 0)) (2 ^ N - 1) && Nat.beq (five N N 0) 0
theorem full_all : [8,32,128,512].all full=true:=by decide +kernel
theorem five_any {N:Nat} (hN:N ∈ [8,32,128,512]) {i j:Nat} (hi:i < N) (hj:j < N):∃ k,k < N/\five N k i=j:=by
 have hf:=List.all_eq_true.mp full_all N hN
 unfold full at hf
 rw [Bool.and_eq_true] at hf
 have hall:∀ x,x < N->∃ k,k < N/\five N k 0=x:=fun x hx=>zeU (zgr (by rw [Nat.eq_of_beq_eq_true hf.1,Nat.testBit_two_pow_sub_one,decide_eq_true hx]))
 have h0:=Nat.eq_of_beq_eq_true hf.2
 obtain ⟨a,ha,rfl⟩:=hall i hi
 obtain ⟨b,hb,rfl⟩:=hall j hj
 by_cases c:a<=b
 ·refine ⟨b - a,by omega,?_⟩
  rw [<- zcj,Nat.sub_add_cancel c]
 ·refine ⟨N - a + b,by omega,?_⟩
  rw [<- zcj,show N - a + b + a=b + N by omega,zcj,h0]
noncomputable def Mask (mask:Nat):Prop:=mask=7\/mask=31\/mask=127\/mask=511
theorem Mask.mem {mask:Nat} (h:Mask mask):mask + 1 ∈ [8,32,128,512]:=by
 rcases h with rfl | rfl | rfl | rfl <;> decide
theorem zgj {mask:Nat} (hm:Mask mask) (h:Int) {j:Nat} (hj:j<=mask):∃ n,n<=mask + 13/\(lp mask h n).1=j:=by
 obtain ⟨k,hk,e⟩:=five_any hm.mem (Nat.lt_succ_of_le (zgC mask h 13)) (Nat.lt_succ_of_le hj)
 exact ⟨13 + k,by omega,by rw [zfK,e]⟩
theorem zgG {mask:Nat} (hm:Mask mask) (h:Int) {j:Nat} (hj:j<=mask):∃ m,m < 10 * SetTable.turns mask/\(nth mask h m).j=j:=by
 obtain ⟨n,hn,e⟩:=zgj hm h hj
 obtain ⟨m,hm',e'⟩:=zgD mask h n
 refine ⟨m,by unfold SetTable.turns; omega,by rw [e']; exact e⟩
structure Ok (t:SetTable) (hs:List Int):Prop where
 size:t.place.size=hs.length
 dum:t.dummies = #[]
 mask:Mask t.mask
 up:t.place.toList.Pairwise (· < ·)
 le:∀ j∈t.place.toList,j<=t.mask
 room:t.place.size * 5 < t.mask * 3
 reach:∀ (i j:Nat) (h:Int),t.place[i]?=some j->hs[i]?=some h->Reach t.mask (· ∈ t.place.toList) h j
theorem exists_free {n:Nat} {l:List Nat} (h:l.length < n):∃ j,j < n/\j ∉ l:=by
 refine Classical.byContradiction fun c => ?_
 have:=zcf (l:=List.range n) (m:=l) List.nodup_range fun j hj=>Classical.byContradiction fun d=>c ⟨j,List.mem_range.mp hj,d⟩
 rw [List.length_range] at this
 omega
theorem zgf (mask:Nat) (h:Int):∀ n,(nth mask h n).j + (nth mask h n).more<=mask
 | 0=>by
  have:SetTable.bits h % (mask + 1)<=mask:=Nat.le_of_lt_succ (Nat.mod_lt _ (Nat.succ_pos _))
  show SetTable.bits h % (mask + 1) + (SetTable.runEnd mask (SetTable.bits h % (mask + 1)) - SetTable.bits h % (mask + 1))<=mask
  unfold SetTable.runEnd
  split <;> omega
 | n + 1=>by
  have:=zgf mask h n
  show (adv mask (nth mask h n)).j + (adv mask (nth mask h n)).more<=mask
  unfold adv
  split
  ·dsimp only; omega
  ·have:(SetTable.leap mask (nth mask h n).i (nth mask h n).perturb).1<=mask:=Nat.le_of_lt_succ (Nat.mod_lt _ (Nat.succ_pos _))
   dsimp only
   unfold SetTable.runEnd
   split <;> omega
section
variable {t:SetTable} {hs:List Int} {hashAt:Nat->Int} {h:Int}
theorem zfP (f m:Nat) (up:t.place.toList.Pairwise (· < ·)) (hin:(nth t.mask h m).j∈t.place.toList):∃ i,t.place[i]?=some (nth t.mask h m).j/\SetTable.probe.go t hashAt h (f + 1) (nth t.mask h m)=if hashAt i == h then some (.candidate (nth t.mask h m).j i (nth t.mask h (m + 1))) else SetTable.probe.go t hashAt h f (nth t.mask h (m + 1)):=by
 obtain ⟨i,e,ei⟩:=slot_in up hin
 refine ⟨i,ei,?_⟩
 show (match t.slot (nth t.mask h m).j with | .empty=>_ | .dummy=>_ | .live i=>_)=_
 rw [e]
 rfl
theorem zfQ (ok:Ok t hs) (hA:∀ i j,t.place[i]?=some j->hashAt i≠h):∀ (f m:Nat),(∃ m',m<=m'/\m' < m + f/\(nth t.mask h m').j ∉ t.place.toList)->(∀ m' < m,(nth t.mask h m').j∈t.place.toList) ->
  ∃ j,SetTable.probe.go t hashAt h f (nth t.mask h m)=some (.empty j none)/\j ∉ t.place.toList/\j<=t.mask/\Reach t.mask (· ∈ t.place.toList) h j
 | 0,m,⟨m',a,b,_⟩,_=>by omega
 | f + 1,m,⟨m',a,b,c⟩,hb=>by
  by_cases hin:(nth t.mask h m).j∈t.place.toList
  ·obtain ⟨i,ei,e⟩:=zfP (hashAt:=hashAt) f m ok.up hin
   rw [e,if_neg (by simpa using hA i _ ei)]
   refine zfQ ok hA f (m + 1) ⟨m',?_,by omega,c⟩ fun m'' hm => ?_
   ·refine Nat.lt_of_le_of_ne a fun z => ?_
    rw [<- z] at c
    exact c hin
   ·by_cases z:m''=m
    ·rw [z]; exact hin
    ·exact hb m'' (by omega)
  ·refine ⟨(nth t.mask h m).j,?_,hin,by have:=zgf t.mask h m; omega,m,rfl,hb⟩
   show (match t.slot (nth t.mask h m).j with | .empty=>_ | .dummy=>_ | .live i=>_)=_
   rw [slot_out ok.dum hin]
   show some (SetTable.Met.empty _ (nth t.mask h m).dummy)=_
   rw [zd1]
theorem zdI (ok:Ok t hs):∀ (f m:Nat),(∃ m',m<=m'/\m' < m + f/\(∀ m'',m<=m''->m''<=m'->(nth t.mask h m'').j∈t.place.toList)/\∀ i,t.place[i]?=some (nth t.mask h m').j->hashAt i=h) ->
  ∃ j i p,SetTable.probe.go t hashAt h f (nth t.mask h m)=some (.candidate j i p)/\t.place[i]?=some j/\hashAt i=h
 | 0,m,⟨m',a,b,_⟩=>by omega
 | f + 1,m,⟨m',a,b,c,d⟩=>by
  obtain ⟨i,ei,e⟩:=zfP (hashAt:=hashAt) f m ok.up (c m (Nat.le_refl _) a)
  rw [e]
  by_cases z:hashAt i=h
  ·exact ⟨_,i,_,if_pos (by simpa using z),ei,z⟩
  ·rw [if_neg (by simpa using z)]
   refine zdI ok f (m + 1) ⟨m',?_,by omega,fun m'' h1 h2=>c m'' (by omega) h2,d⟩
   refine Nat.lt_of_le_of_ne a fun y=>z (d i ?_)
   rw [<- y]; exact ei
theorem probe_free (ok:Ok t hs) (hA:∀ i j,t.place[i]?=some j->hashAt i≠h):∃ j,t.probe hashAt h (t.probeStart h)=some (.empty j none)/\j ∉ t.place.toList/\j<=t.mask/\Reach t.mask (· ∈ t.place.toList) h j:=by
 have hr:=ok.room
 obtain ⟨j,hj,hn⟩:=exists_free (n:=t.mask + 1) (l:=t.place.toList) (by rw [Array.length_toList]; omega)
 obtain ⟨m,hm,e⟩:=zgG ok.mask h (Nat.le_of_lt_succ hj)
 exact zfQ ok hA (10 * SetTable.turns t.mask) 0 ⟨m,Nat.zero_le _,by omega,by rw [e]; exact hn⟩ (fun _ z=>absurd z (Nat.not_lt_zero _))
theorem place_inj (ok:Ok t hs) {i i' j:Nat} (e:t.place[i]?=some j) (e':t.place[i']?=some j):i=i':=by
 obtain ⟨a,b⟩:=Array.getElem?_eq_some_iff.mp e
 obtain ⟨a',b'⟩:=Array.getElem?_eq_some_iff.mp e'
 rcases Nat.lt_trichotomy i i' with c | c | c
 ·have:=List.pairwise_iff_getElem.mp ok.up i i' (by simpa using a) (by simpa using a') c
  simp only [Array.getElem_toList,b,b'] at this
  omega
 ·exact c
 ·have:=List.pairwise_iff_getElem.mp ok.up i' i (by simpa using a') (by simpa using a) c
  simp only [Array.getElem_toList,b,b'] at this
  omega
theorem probe_found (ok:Ok t hs) (hA:∀ i h',hs[i]?=some h'->hashAt i=h') (hin:h∈hs):∃ j i p,t.probe hashAt h (t.probeStart h)=some (.candidate j i p)/\t.place[i]?=some j/\hashAt i=h:=by
 obtain ⟨i,hi⟩:=List.mem_iff_getElem?.mp hin
 have hl:i < hs.length:=(List.getElem?_eq_some_iff.mp hi).1
 obtain ⟨j,hj⟩:∃ j,t.place[i]?=some j:=⟨_,Array.getElem?_eq_getElem (by rw [ok.size]; exact hl)⟩
 have hjm:j∈t.place.toList:=List.mem_iff_getElem?.mpr ⟨i,by rw [Array.getElem?_toList]; exact hj⟩
 have hu:∀ i',t.place[i']?=some j->hashAt i'=h:=fun i' e=>by rw [<- place_inj ok hj e]; exact hA i h hi
 obtain ⟨m,e,a⟩:=ok.reach i j h hj hi
 obtain ⟨m1,hm1,e1⟩:=zgG ok.mask h (ok.le j hjm)
 by_cases c:m<=m1
 ·refine zdI ok (10 * SetTable.turns t.mask) 0 ⟨m,Nat.zero_le _,by omega,fun m'' _ h2 => ?_,by rw [e]; exact hu⟩
  by_cases z:m''=m
  ·rw [z,e]; exact hjm
  ·exact a m'' (by omega)
 ·exact zdI ok (10 * SetTable.turns t.mask) 0 ⟨m1,Nat.zero_le _,by omega,fun m'' _ h2=>a m'' (by omega),by rw [e1]; exact hu⟩
theorem put_list (hd:t.dummies = #[]) (j:Nat):(t.put j).1={ t with place:=SetTable.insertAt t.place (SetTable.below t.place j) j }/\(t.put j).2=SetTable.below t.place j:=by
 refine ⟨?_,rfl⟩
 unfold SetTable.put
 dsimp only
 rw [if_neg (by rw [hd]; unfold SetTable.has; simp)]
theorem put_ok (ok:Ok t hs) {j:Nat} (hn:j ∉ t.place.toList) (hj:j<=t.mask) (r:Reach t.mask (· ∈ t.place.toList) h j) :
  t.place.toList.take (SetTable.below t.place j) ++ j :: t.place.toList.drop (SetTable.below t.place j)=(t.put j).1.place.toList/\(t.put j).1.dummies = #[]/\(t.put j).1.mask=t.mask/\(t.put j).1.place.toList.Pairwise (· < ·)/\(∀ x∈(t.put j).1.place.toList,x<=t.mask) /\
  (∀ (i x:Nat) (h':Int),(t.put j).1.place[i]?=some x->(hs.take (SetTable.below t.place j) ++ h :: hs.drop (SetTable.below t.place j))[i]?=some h'->Reach t.mask (· ∈ (t.put j).1.place.toList) h' x)/\(t.put j).1.place.size=hs.length + 1:=by
 obtain ⟨b1,b2,b3⟩:=zdo j ok.up
 have e1:=(put_list (t:=t) ok.dum j).1
 have el:(t.put j).1.place.toList=t.place.toList.take (SetTable.below t.place j) ++ j :: t.place.toList.drop (SetTable.below t.place j):=by rw [e1]; exact SetTable.toList_insertAt _ _ _
 generalize hp:SetTable.below t.place j=p at *
 have hlen:t.place.toList.length=hs.length:=by rw [Array.length_toList,ok.size]
 have hgt:∀ i,i < t.place.toList.length->t.place.toList[i]?=some (t.place.getD i 0):=fun i hi=>by
  rw [Array.length_toList] at hi
  rw [Array.getElem?_toList,Array.getElem?_eq_getElem hi]
  simp [Array.getD,hi]
 have mem_sub:∀ x,x∈t.place.toList->x∈(t.put j).1.place.toList:=fun x hx=>by
  rw [el]
  rw [<- List.take_append_drop p t.place.toList] at hx
  rcases List.mem_append.mp hx with a | a
  ·exact List.mem_append_left _ a
  ·exact List.mem_append_right _ (List.mem_cons_of_mem _ a)
 refine ⟨el.symm,by rw [e1]; exact ok.dum,by rw [e1],?_,?_,?_,?_⟩
 ·rw [el]
  rw [List.pairwise_append]
  have up:=ok.up
  rw [<- List.take_append_drop p t.place.toList,List.pairwise_append] at up
  obtain ⟨u1,u2,u3⟩:=up
  have lo:∀ a∈t.place.toList.take p,a < j:=fun a ha=>by
   obtain ⟨i,hi⟩:=List.mem_iff_getElem?.mp ha
   have hi2:i < p:=by
    have:=(List.getElem?_eq_some_iff.mp hi).1
    rw [List.length_take] at this
    omega
   rw [List.getElem?_take_of_lt hi2,hgt i (by rw [Array.length_toList]; omega)] at hi
   have:=b2 i hi2
   injection hi with hi
   omega
  have up':∀ a∈t.place.toList.drop p,j < a:=fun a ha=>by
   obtain ⟨i,hi⟩:=List.mem_iff_getElem?.mp ha
   have hne:a≠j:=fun z=>hn (by rw [<- z]; exact List.mem_of_mem_drop ha)
   have hi3:=(List.getElem?_eq_some_iff.mp hi).1
   rw [List.length_drop] at hi3
   rw [List.getElem?_drop,hgt (p + i) (by omega)] at hi
   have:=b3 (p + i) (by omega) (by rw [Array.length_toList] at hi3; omega)
   injection hi with hi
   omega
  refine ⟨u1,List.pairwise_cons.mpr ⟨up',u2⟩,fun a ha b hb => ?_⟩
  rcases List.mem_cons.mp hb with rfl | hb
  ·exact lo a ha
  ·exact u3 a ha b hb
 ·intro x hx
  rw [el] at hx
  rcases List.mem_append.mp hx with a | a
  ·exact ok.le x (List.mem_of_mem_take a)
  ·rcases List.mem_cons.mp a with rfl | a
   ·exact hj
   ·exact ok.le x (List.mem_of_mem_drop a)
 ·intro i x h' ei eh
  rw [<- Array.getElem?_toList,el] at ei
  have lp':(t.place.toList.take p).length=p:=by rw [List.length_take,Array.length_toList]; omega
  have lh':(hs.take p).length=p:=by rw [List.length_take,<- hlen,Array.length_toList]; omega
  rcases Nat.lt_trichotomy i p with c | c | c
  ·rw [List.getElem?_append_left (by omega),List.getElem?_take_of_lt c,Array.getElem?_toList] at ei
   rw [List.getElem?_append_left (by omega),List.getElem?_take_of_lt c] at eh
   exact (ok.reach i x h' ei eh).mono mem_sub
  ·subst c
   rw [List.getElem?_append_right (by omega),lp',Nat.sub_self] at ei
   rw [List.getElem?_append_right (by omega),lh',Nat.sub_self] at eh
   injection ei with ei
   injection eh with eh
   subst ei eh
   exact r.mono mem_sub
  ·rw [List.getElem?_append_right (by omega),lp'] at ei
   rw [List.getElem?_append_right (by omega),lh'] at eh
   rw [show i - p=i - p - 1 + 1 by omega,List.getElem?_cons_succ,List.getElem?_drop] at ei eh
   rw [Array.getElem?_toList] at ei
   exact (ok.reach _ x h' ei eh).mono mem_sub
 ·rw [<- Array.length_toList,el,List.length_append,List.length_cons,List.length_take,List.length_drop,Array.length_toList,<- ok.size]
  omega
end
noncomputable def taken (o:Array (Option Nat)) (j:Nat):Prop:=∃ k,o[j]?=some (some k)
structure Laid (mask:Nat) (hs:List Int) (k:Nat) (o:Array (Option Nat)):Prop where
 size:o.size=mask + 1
 lt:∀ (j i:Nat),o[j]?=some (some i)->i < k
 inj:∀ (j j' i:Nat),o[j]?=some (some i)->o[j']?=some (some i)->j=j'
 all:∀ i,i < k->∃ j:Nat,o[j]?=some (some i)
 reach:∀ (j i:Nat) (h:Int),o[j]?=some (some i)->hs[i]?=some h->Reach mask (taken o) h j
theorem zfT {mask:Nat} {o:Array (Option Nat)} {h:Int} (hsz:o.size=mask + 1):∀ (f n m:Nat),nth mask h m=atLeap mask (lp mask h n)->(∀ m' < m,taken o (nth mask h m').j)->(∃ n',n<=n'/\n' < n + f/\¬ taken o (lp mask h n').1) ->
  ∃ j,SetTable.layClean.free mask o f (lp mask h n).1 (lp mask h n).2=some j/\j<=mask/\¬ taken o j/\Reach mask (taken o) h j
 | 0,n,m,_,_,⟨n',a,b,_⟩=>by omega
 | f + 1,n,m,e,hb,⟨n',a,b,c⟩=>by
  have hle:=zgC mask h n
  have hr:SetTable.runEnd mask (lp mask h n).1<=mask:=by unfold SetTable.runEnd; split <;> omega
  have tk:∀ x,x<=mask->(o.getD x (some 0)).isNone=false->taken o x:=fun x hx z=>by
   have hx':x < o.size:=by omega
   simp only [Array.getD,hx',dif_pos] at z
   cases ho:o[x] with
   | none =>
    change (Option.isNone (o[x]))=false at z
    rw [ho] at z; cases z
   | some k=>exact ⟨k,by rw [Array.getElem?_eq_getElem hx',ho]⟩
  have ntk:∀ x,x<=mask->(o.getD x (some 0)).isNone=true->¬ taken o x:=fun x hx z ⟨k,y⟩=>by
   have hx':x < o.size:=by omega
   rw [Array.getElem?_eq_getElem hx'] at y
   injection y with y
   simp only [Array.getD,hx',dif_pos] at z
   change (Option.isNone (o[x]))=true at z
   rw [y] at z; cases z
  show ∃ j,(match (List.range (SetTable.runEnd mask (lp mask h n).1 + 1 - (lp mask h n).1)).find? fun k=>(o.getD ((lp mask h n).1 + k) (some 0)).isNone with | some k=>_ | none=>_)=some j/\_
  cases hf:(List.range (SetTable.runEnd mask (lp mask h n).1 + 1 - (lp mask h n).1)).find? fun k=>(o.getD ((lp mask h n).1 + k) (some 0)).isNone with
  | some k =>
   obtain ⟨p1,as,bs,p2,p3⟩:=List.find?_eq_some_iff_append.mp hf
   have hk:k < SetTable.runEnd mask (lp mask h n).1 + 1 - (lp mask h n).1:=List.mem_range.mp (by rw [p2]; simp)
   have has:∀ x,x < k->(o.getD ((lp mask h n).1 + x) (some 0)).isNone=false:=fun x hx=>by
    have:=List.find?_eq_some_iff_getElem.mp hf
    obtain ⟨_,i,hi,e1,e2⟩:=this
    rw [List.getElem_range] at e1
    have:=e2 x (by omega)
    rw [List.getElem_range] at this
    simpa using this
   refine ⟨(lp mask h n).1 + k,rfl,by omega,ntk _ (by omega) p1,m + k,?_,fun m' hm => ?_⟩
   ·rw [zcU e k (by omega)]
   ·by_cases z:m' < m
    ·exact hb m' z
    ·have:=zcU e (m' - m) (by omega)
     rw [show m + (m' - m)=m' by omega] at this
     rw [this]
     exact tk _ (by show (lp mask h n).1 + (m' - m)<=mask; omega) (has _ (by omega))
  | none =>
   have hall:∀ x,x<=SetTable.runEnd mask (lp mask h n).1 - (lp mask h n).1->taken o ((lp mask h n).1 + x):=fun x hx=>by
    have hge:(lp mask h n).1<=SetTable.runEnd mask (lp mask h n).1:=by unfold SetTable.runEnd; split <;> omega
    refine tk _ (by omega) ?_
    have:=List.find?_eq_none.mp hf x (List.mem_range.mpr (by omega))
    exact Bool.eq_false_iff.mpr this
   refine zfT hsz f (n + 1) _ (zeZ e) (fun m' hm => ?_) ⟨n',?_,by omega,c⟩
   ·by_cases z:m' < m
    ·exact hb m' z
    ·have:=zcU e (m' - m) (by omega)
     rw [show m + (m' - m)=m' by omega] at this
     rw [this]
     exact hall _ (by omega)
   ·refine Nat.lt_of_le_of_ne a fun z => ?_
    rw [<- z] at c
    exact c (hall 0 (Nat.zero_le _))
theorem laid_step {mask:Nat} {hs:List Int} {k:Nat} {o:Array (Option Nat)} {h:Int} (hm:Mask mask) (L:Laid mask hs k o) (hk:k<=mask) (hh:hs[k]?=some h) :
  ∃ j,SetTable.layClean.free mask o (SetTable.turns mask) (SetTable.bits h % (mask + 1)) (SetTable.bits h)=some j/\Laid mask hs (k + 1) (o.setIfInBounds j (some k)):=by
 obtain ⟨j0,hj0,hf⟩:∃ j,j < mask + 1/\¬ taken o j:=by
  refine Classical.byContradiction fun c => ?_
  have hall:∀ j,j < mask + 1->taken o j:=fun j hj=>Classical.byContradiction fun d=>c ⟨j,hj,d⟩
  have nd:((List.range (mask + 1)).map fun j=>((o[j]?).getD none).getD 0).Nodup:=by
   refine List.Pairwise.map _ (R:=fun a b=>a≠b/\a < mask + 1/\b < mask + 1) (fun a b ⟨ne,ha,hb⟩ z => ?_) ?_
   ·obtain ⟨x,ex⟩:=hall a ha
    obtain ⟨y,ey⟩:=hall b hb
    rw [ex,ey] at z
    simp at z
    subst z
    exact ne (L.inj a b x ex ey)
   ·refine List.Pairwise.imp_of_mem (fun ha hb ne=>⟨ne,List.mem_range.mp ha,List.mem_range.mp hb⟩) (List.nodup_range (n:=mask + 1))
  have:=zcf (m:=List.range k) nd fun x hx=>by
   obtain ⟨j,hj,e⟩:=List.mem_map.mp hx
   obtain ⟨y,ey⟩:=hall j (List.mem_range.mp hj)
   rw [ey] at e
   simp at e
   subst e
   exact List.mem_range.mpr (L.lt j _ ey)
  rw [List.length_map,List.length_range,List.length_range] at this
  omega
 obtain ⟨n',hn',e'⟩:=zgj hm h (Nat.le_of_lt_succ hj0)
 obtain ⟨j,ej,hj,hn,r⟩:=zfT (h:=h) L.size (SetTable.turns mask) 0 0 rfl (fun _ z=>absurd z (Nat.not_lt_zero _)) ⟨n',Nat.zero_le _,by unfold SetTable.turns; omega,by rw [e']; exact hf⟩
 refine ⟨j,ej,?_⟩
 have hjs:j < o.size:=by rw [L.size]; omega
 have at':∀ x,(o.setIfInBounds j (some k))[x]?=if j=x then some (some k) else o[x]?:=fun x=>by
  rw [Array.getElem?_setIfInBounds]
  split
  ·first | rw [if_pos hjs] | rfl
  ·rfl
 have up:∀ x,taken o x->taken (o.setIfInBounds j (some k)) x:=fun x ⟨i,e⟩=>⟨i,by rw [at',if_neg (fun z=>hn ⟨i,by rw [z]; exact e⟩)]; exact e⟩
 refine ⟨by simpa using L.size,fun x i e => ?_,fun x x' i e e2 => ?_,fun i hi => ?_,fun x i h' e eh => ?_⟩
 ·rw [at'] at e
  split at e
  ·simp at e; omega
  ·exact Nat.lt_succ_of_lt (L.lt x i e)
 ·rw [at'] at e e2
  split at e <;> split at e2
  ·omega
  ·simp at e; subst e; exact absurd (L.lt x' _ e2) (Nat.lt_irrefl _)
  ·simp at e2; subst e2; exact absurd (L.lt x _ e) (Nat.lt_irrefl _)
  ·exact L.inj x x' i e e2
 ·by_cases z:i=k
  ·exact ⟨j,by rw [at',if_pos rfl,z]⟩
  ·obtain ⟨x,e⟩:=L.all i (by omega)
   exact ⟨x,by rw [at',if_neg (fun z=>hn ⟨i,by rw [z]; exact e⟩)]; exact e⟩
 ·rw [at'] at e
  split at e
  ·rename_i z
   simp at e
   subst e z
   rw [hh] at eh
   injection eh with eh
   subst eh
   exact r.mono up
  ·exact (L.reach x i h' e eh).mono up
theorem ze2 {mask:Nat} {hs:List Int} (hm:Mask mask):∀ (left done:List Int) (o:Array (Option Nat)),hs=done ++ left->hs.length<=mask + 1->Laid mask hs done.length o ->
  ∃ o',left.foldl (init:=some (o,done.length)) (fun acc h=>do
   let (owner,k) <- acc
   let j <- SetTable.layClean.free mask owner (SetTable.turns mask) (SetTable.bits h % (mask + 1)) (SetTable.bits h)
   pure (owner.setIfInBounds j (some k),k + 1))=some (o',hs.length)/\Laid mask hs hs.length o'
 | [],done,o,e,hl,L=>by
  rw [List.append_nil] at e
  exact ⟨o,by rw [e]; rfl,by rw [e] at L ⊢; exact L⟩
 | h :: left,done,o,e,hl,L=>by
  have hh:hs[done.length]?=some h:=by rw [e,List.getElem?_append_right (Nat.le_refl _),Nat.sub_self]; rfl
  have hlt:=(List.getElem?_eq_some_iff.mp hh).1
  obtain ⟨j,ej,L'⟩:=laid_step hm L (by omega) hh
  have:=ze2 hm left (done ++ [h]) (o.setIfInBounds j (some done.length)) (by rw [e]; simp) hl (by rw [List.length_append]; exact L')
  rw [List.length_append] at this
  rw [List.foldl_cons]
  show ∃ o',left.foldl (init:=(do
   let j <- SetTable.layClean.free mask o (SetTable.turns mask) (SetTable.bits h % (mask + 1)) (SetTable.bits h)
   pure (o.setIfInBounds j (some done.length),done.length + 1))) _=_/\_
  rw [ej]
  exact this
theorem clean_ok {mask:Nat} {hs:Array Int} (hm:Mask mask) (hl:hs.size<=mask + 1):∃ o,SetTable.layClean mask hs=some o/\Laid mask hs.toList hs.size o:=by
 have nope:∀ (j i:Nat),(Array.replicate (mask + 1) (none:Option Nat))[j]?=some (some i)->False:=fun j i e=>by
  rw [Array.getElem?_replicate] at e
  split at e <;> simp at e
 obtain ⟨o,e,L⟩:=ze2 (hs:=hs.toList) hm hs.toList [] (Array.replicate (mask + 1) none) rfl (by simpa using hl)
  ⟨by simp,fun j i e=>(nope j i e).elim,fun j j' i e=>(nope j i e).elim,fun i hi=>absurd hi (Nat.not_lt_zero _),fun j i h e=>(nope j i e).elim⟩
 refine ⟨o,?_,by simpa using L⟩
 unfold SetTable.layClean
 rw [<- Array.foldl_toList]
 exact congrArg (Option.map (·.1)) e
theorem relaid_ok {t:SetTable} {hs:Array Int} {wanted:Nat} (hm:Mask (SetTable.sizeAbove wanted - 1)) (hl:hs.size * 5 < (SetTable.sizeAbove wanted - 1) * 3) :
  ∃ t' order,t.relaid hs wanted=some (t',order)/\order.toList.Perm (List.range hs.size)/\Ok t' (order.toList.map fun i=>hs.getD i 0):=by
 obtain ⟨o,eo,L⟩:=clean_ok (hs:=hs) hm (by omega)
 generalize hM:SetTable.sizeAbove wanted - 1=mask at *
 have e:t.relaid hs wanted=some ({ mask,place:=(((List.range (mask + 1)).filterMap fun j=>(o.getD j none).map (j,·)).map (·.1)).toArray,dummies := #[],finger:=t.finger,led:=t.led,moves:=t.movedTo mask,plain:=t.plain },(((List.range (mask + 1)).filterMap fun j=>(o.getD j none).map (j,·)).map (·.2)).toArray):=by
  unfold SetTable.relaid SetTable.laid
  rw [hM,eo]
  rfl
 have hg:∀ (j k:Nat),o.getD j none=some k ↔ o[j]?=some (some k):=fun j k=>by
  by_cases hj:j < o.size
  ·simp only [Array.getD,hj,dif_pos,Array.getElem?_eq_getElem hj]
   constructor
   ·intro z
    exact congrArg some z
   ·intro z
    injection z with z
  ·simp [Array.getD,hj]
 have hmem:∀ (j k:Nat),(j,k)∈((List.range (mask + 1)).filterMap fun j=>(o.getD j none).map (j,·)) ↔ o[j]?=some (some k):=fun j k=>by
  rw [List.mem_filterMap]
  constructor
  ·rintro ⟨x,_,hx⟩
   rw [Option.map_eq_some_iff] at hx
   obtain ⟨y,e1,e2⟩:=hx
   injection e2 with e2 e3
   subst e2 e3
   exact (hg _ _).mp e1
  ·intro z
   refine ⟨j,List.mem_range.mpr ?_,by rw [(hg j k).mpr z]; rfl⟩
   have:=(Array.getElem?_eq_some_iff.mp z).1
   rw [L.size] at this
   exact this
 have hup:(((List.range (mask + 1)).filterMap fun j=>(o.getD j none).map (j,·))).Pairwise (fun a b=>a.1 < b.1):=by
  refine List.Pairwise.filterMap _ (R:=(· < ·)) (fun a a' haa b hb b' hb' => ?_) List.pairwise_lt_range
  rw [Option.map_eq_some_iff] at hb hb'
  obtain ⟨_,_,rfl⟩:=hb
  obtain ⟨_,_,rfl⟩:=hb'
  exact haa
 generalize ((List.range (mask + 1)).filterMap fun j=>(o.getD j none).map (j,·))=live at *
 have nd2:(live.map (·.2)).Nodup:=by
  refine List.Pairwise.map _ (R:=fun a b=>a.1 < b.1/\a∈live/\b∈live) (fun a b ⟨hlt,ha,hb⟩ z => ?_) (List.Pairwise.imp_of_mem (fun ha hb x=>⟨x,ha,hb⟩) hup)
  have e1:=(hmem a.1 a.2).mp ha
  have e2:=(hmem b.1 b.2).mp hb
  rw [<- z] at e2
  have:=L.inj _ _ _ e1 e2
  omega
 have m2:∀ i,i∈live.map (·.2) ↔ i < hs.size:=fun i=>by
  constructor
  ·intro h
   obtain ⟨a,ha,rfl⟩:=List.mem_map.mp h
   have:=L.lt _ _ ((hmem a.1 a.2).mp ha)
   simpa using this
  ·intro h
   obtain ⟨j,ej⟩:=L.all i (by simpa using h)
   exact List.mem_map.mpr ⟨(j,i),(hmem j i).mpr ej,rfl⟩
 have pm:(live.map (·.2)).Perm (List.range hs.size):=by
  refine (List.perm_ext_iff_of_nodup nd2 List.nodup_range).mpr fun i => ?_
  rw [m2,List.mem_range]
 have hln:live.length=hs.size:=by simpa using pm.length_eq
 have occ:∀ j,taken o j->j∈live.map (·.1):=fun j ⟨k,ek⟩=>List.mem_map.mpr ⟨(j,k),(hmem j k).mpr ek,rfl⟩
 refine ⟨_,_,e,by simpa using pm,?_,rfl,hm,?_,?_,?_,?_⟩
 ·simp
 ·exact List.Pairwise.map (fun a:Nat×Nat=>a.1) (fun a b h=>h) hup
 ·intro j hj
  simp only [List.mem_map] at hj
  obtain ⟨a,ha,rfl⟩:=hj
  have:=(Array.getElem?_eq_some_iff.mp ((hmem a.1 a.2).mp ha)).1
  rw [L.size] at this
  exact Nat.le_of_lt_succ this
 ·simp only [List.size_toArray,List.length_map,hln]
  exact hl
 ·intro i j h ei eh
  simp only [List.getElem?_toArray,List.getElem?_map,Option.map_eq_some_iff] at ei eh
  obtain ⟨a,ea,rfl⟩:=ei
  obtain ⟨b,eb,rfl⟩:=eh
  obtain ⟨c,ec,rfl⟩:=eb
  rw [ea] at ec
  injection ec with ec
  subst ec
  have hin:=(hmem a.1 a.2).mp (List.mem_of_getElem? ea)
  have hlt:a.2 < hs.size:=by simpa using L.lt _ _ hin
  refine (L.reach a.1 a.2 _ hin ?_).mono occ
  rw [Array.getElem?_toList,Array.getElem?_eq_getElem hlt]
  simp [Array.getD,hlt]
end Tab
section
variable {P:Program} {w:World} {A:Around} {E:Value->Shared->Prop} {s:Shared}
theorem byV_class {M:Model} {Q:Bool->Shared->Prop} {n:Nat} {v:Value} (h:carriedByValue v=true) (q:Q false s):wpAny M A (ofAClassStatement n v) Q E s:=by
 cases v with
 | ref a=>cases h
 | _=>unfold ofAClassStatement; exact wpAny_pure q
theorem byV_hash {M:Model} {Q:Bool->Shared->Prop} {n:Nat} {v:Value} (h:carriedByValue v=true) (q:∀ b,Q b s):wpAny M A (hashByValue n v) Q E s:=by
 cases v with
 | ref a=>cases h
 | _=>unfold hashByValue; exact wpAny_pure (q _)
theorem zdR {M:Model} {n:Nat} {ks:List Key} {a:Addr} {Q:Bool->Shared->Prop} (hk:IsTupleKey (mixKind P w) s.heap ks a) (q:Q false s):wpAny M A (ofAClassStatement (n + 1) (.ref a)) Q E s:=by
 have ty:=hk.typeIs
 obtain ⟨ob,its,m,e1,_,e3,r⟩:=hk
 unfold ofAClassStatement
 refine wpAny_bind (wpAny_typeOf ty ?_)
 dsimp only
 rw [if_pos (by decide)]
 refine wpAny_bind (wpAny_pure ?_)
 simp only [Bool.not_true,Bool.false_eq_true,if_false]
 refine wpAny_bind (wpAny_seqItems e1 e3 (wpAny_bind ?_))
 rw [<- Array.forIn_toList]
 refine wpAny_forIn_list _ (fun rest r s'=>r.1=none/\s'=s/\∀ v∈rest,carriedByValue v=true) _ ?_ ?_ _ _ ⟨rfl,rfl,r.byValue⟩
 ·rintro v rest r s' ⟨_,rfl,hv⟩
  refine wpAny_bind (byV_class (hv v List.mem_cons_self) ?_)
  simp only [Bool.false_eq_true,if_false]
  exact wpAny_pure ⟨rfl,rfl,fun u hu'=>hv u (List.mem_cons_of_mem _ hu')⟩
 ·rintro ⟨r1,r2⟩ s' ⟨hr,rfl,_⟩
  dsimp only at hr
  subst hr
  exact wpAny_pure q
theorem tup_byhash {M:Model} {n:Nat} {ks:List Key} {a:Addr} {Q:Bool->Shared->Prop} (hk:IsTupleKey (mixKind P w) s.heap ks a) (q:∀ b,Q b s):wpAny M A (hashByValue (n + 1) (.ref a)) Q E s:=by
 have ty:=hk.typeIs
 obtain ⟨ob,its,m,e1,_,e3,r⟩:=hk
 unfold hashByValue
 refine wpAny_bind (wpAny_specialOf ty F.slot_tuple_hash.lookup ?_)
 dsimp only
 refine wpAny_bind (wpAny_seqItems e1 e3 (wpAny_bind ?_))
 change wpAny M A (forIn its _ _) _ E s
 rw [<- Array.forIn_toList]
 refine wpAny_forIn_list _ (fun rest r s'=>r.1=none/\s'=s/\∀ v∈rest,carriedByValue v=true) _ ?_ ?_ _ _ ⟨rfl,rfl,r.byValue⟩
 ·rintro v rest r s' ⟨_,rfl,hv⟩
  refine wpAny_bind (byV_hash (hv v List.mem_cons_self) fun b => ?_)
  cases b with
  | true =>
   simp only [Bool.not_true,Bool.false_eq_true,if_false]
   exact wpAny_pure ⟨rfl,rfl,fun u hu'=>hv u (List.mem_cons_of_mem _ hu')⟩
  | false =>
   simp only [Bool.not_false,if_true]
   exact wpAny_pure (wpAny_pure (q _))
 ·rintro ⟨r1,r2⟩ s' ⟨hr,rfl,_⟩
  dsimp only at hr
  subst hr
  exact wpAny_pure (q _)
noncomputable def ElR (P:Program) (w:World) (B:Addr->Prop) (h:Heap) (ns:List Int) (e:Int×Value):Prop:=e.1=hshI ns/\∃ b,e.2 = .ref b/\B b/\IsTupleKey (mixKind P w) h (kI ns) b
noncomputable def SetAt (P:Program) (w:World) (B:Addr->Prop) (h:Heap) (a:Addr) (ks:List (List Int)):Prop :=
 ∃ (o:Obj) (es:Array (Int×Value)) (ep:Nat) (t:SetTable) (ms:List (List Int)),h.get? a=some o/\o.ExactSet/\o.data = .set es ep t/\Tab.Ok t (es.toList.map (·.1))/\ms.Perm ks/\Paired (ElR P w B h) ms es.toList
theorem zdq {t:SetTable} {es:Array (Int×Value)} (ok:Tab.Ok t (es.toList.map (·.1))):t.fits es.size=true:=by
 have h1:=ok.size
 have h2:=ok.room
 rw [List.length_map,Array.length_toList] at h1
 simp only [SetTable.fits,SetTable.fill,ok.dum,Bool.and_eq_true,beq_iff_eq,decide_eq_true_eq]
 exact ⟨h1,by simp; omega⟩
theorem tab_way {t:SetTable} {hs:List Int} (ok:Tab.Ok t hs):t.gaveWay=false:=by
 unfold SetTable.gaveWay
 rcases ok.mask with h | h | h | h <;> rw [h] <;> decide
theorem quiet_set {M:Model} {ks:List Key} {b:Addr} {Q:Bool->Shared->Prop} {vs:List Value} (hk:IsTupleKey (mixKind P w) s.heap ks b) (hv:∀ v∈vs,∃ c ks',v = .ref c/\IsTupleKey (mixKind P w) s.heap ks' c) (q:Q false s):wpAny M A (searchCouldBeSeen (.ref b) vs) Q E s:=by
 unfold searchCouldBeSeen
 refine wpAny_bind ?_
 refine wpAny_forIn_list _ (fun rest r s'=>r.1=none/\s'=s/\∀ v∈rest,∃ c ks',v = .ref c/\IsTupleKey (mixKind P w) s.heap ks' c) _ ?_ ?_ _ _ ⟨rfl,rfl,hv⟩
 ·rintro v rest r s' ⟨_,rfl,hv⟩
  obtain ⟨c,ks',rfl,hc⟩:=hv v List.mem_cons_self
  have fin:∀ (u:Value),u∈rest->∃ c ks',u = .ref c/\IsTupleKey (mixKind P w) s'.heap ks' c:=fun u hu'=>hv u (List.mem_cons_of_mem _ hu')
  dsimp only
  split
  ·exact wpAny_pure ⟨rfl,rfl,fin⟩
  ·refine wpAny_bind (zdQ (n:=7) hk ?_)
   simp only [Bool.not_true,Bool.false_eq_true,if_false]
   refine wpAny_bind (zdQ (n:=7) hc ?_)
   simp only [Bool.not_true,Bool.false_eq_true,if_false]
   refine wpAny_bind (zdR (n:=7) hk ?_)
   simp only [Bool.false_eq_true,if_false]
   refine wpAny_bind (zdR (n:=7) hc ?_)
   simp only [Bool.false_eq_true,if_false]
   exact wpAny_pure ⟨rfl,rfl,fin⟩
 ·rintro ⟨r1,r2⟩ s' ⟨hr,rfl,_⟩
  dsimp only at hr
  subst hr
  exact wpAny_pure q
theorem set_search {B:Addr->Prop} {a b:Addr} {o:Obj} {es:Array (Int×Value)} {ep:Nat} {t:SetTable} {ms:List (List Int)} {ns:List Int} {Q:SetFound->Shared->Prop} (hu:A.units < cLine) (fuel:Nat)
  (ho:s.heap.get? a=some o) (hd:o.data = .set es ep t) (ok:Tab.Ok t (es.toList.map (·.1))) (el:Paired (ElR P w B s.heap) ms es.toList) (hk:IsTupleKey (mixKind P w) s.heap (kI ns) b) (inj:∀ m∈ms,hshI m=hshI ns->m=ns)
  (q1:ns∈ms->Q (.there none) s) (q2:ns ∉ ms->∀ j,j ∉ t.place.toList->j<=t.mask->Tab.Reach t.mask (· ∈ t.place.toList) (hshI ns) j->Q (.free j false) s) :
  wpAny (model P w) A (setSearchFrom a (.ref b) (hshI ns) true (fuel + 1) none) Q E s:=by
 have hf:=zdq ok
 have hsz:t.place.size=es.size:=by have:=ok.size; rwa [List.length_map,Array.length_toList] at this
 have hA:∀ (i:Nat) (h':Int),(es.toList.map (·.1))[i]?=some h'->(es[i]?.map (·.1)).getD 0=h':=fun i h' e=>by
  rw [List.getElem?_map,Array.getElem?_toList] at e
  rw [e]; rfl
 unfold setSearchFrom
 refine wpAny_bind (wpAny_setState_of ho hd hf ?_)
 dsimp only
 rw [tab_way ok]
 simp only [Bool.false_eq_true,if_false]
 by_cases hin:ns∈ms
 ·have hh:hshI ns∈es.toList.map (·.1):=by
   obtain ⟨i,hi⟩:=List.mem_iff_getElem?.mp hin
   obtain ⟨e,he,hr⟩:=Paired.at el hi
   exact List.mem_map.mpr ⟨e,List.mem_of_getElem? he,hr.1⟩
  obtain ⟨j,i,p,e,hp,hi⟩:=Tab.probe_found (hashAt:=fun i=>(es[i]?.map (·.1)).getD 0) ok hA hh
  have hil:i < es.size:=by rw [<- hsz]; exact (Array.getElem?_eq_some_iff.mp hp).1
  have hei:es[i]?=some es[i]:=Array.getElem?_eq_getElem hil
  obtain ⟨m,hm,hr⟩:=Paired.rev el (show es.toList[i]?=some es[i] by rw [Array.getElem?_toList]; exact hei)
  have hm':m=ns:=inj m (List.mem_of_getElem? hm) (by
   rw [<- hr.1]
   rw [hei] at hi
   exact hi)
  subst hm'
  obtain ⟨c,ec,_,hc⟩:=hr.2
  split
  ·rename_i met he
   have e':some met=some (SetTable.Met.candidate j i p):=he.symm.trans e
   injection e' with e'
   subst e'
   dsimp only
   obtain ⟨⟨h0,y⟩,hy⟩:∃ e,e=es[i]:=⟨_,rfl⟩
   rw [<- hy] at ec hei
   simp only at ec
   subst ec
   split
   ·refine wpAny_bind (quiet_set hk ?_ ?_)
    ·intro v hv
     obtain ⟨e2,he2,rfl⟩:=List.mem_map.mp hv
     rw [Array.mem_toList_iff,Array.mem_filter] at he2
     obtain ⟨i2,hi2⟩:=List.mem_iff_getElem?.mp (Array.mem_toList_iff.mpr he2.1)
     obtain ⟨m2,_,hr2⟩:=Paired.rev el hi2
     obtain ⟨c2,ec2,_,hc2⟩:=hr2.2
     exact ⟨c2,_,ec2,hc2⟩
    ·simp only [Bool.false_eq_true,if_false,hei]
     refine wpAny_bind (wpAny_holding (wpAny_eqBool_tuple hu hc hk ?_))
     refine wpAny_bind (wpAny_setState_of ho hd hf ?_)
     simp only [decide_true,Bool.and_self,if_true]
     exact wpAny_pure (q1 hin)
   ·simp only [hei]
    refine wpAny_bind (wpAny_holding (wpAny_eqBool_tuple hu hc hk ?_))
    refine wpAny_bind (wpAny_setState_of ho hd hf ?_)
    simp only [decide_true,Bool.and_self,if_true]
    exact wpAny_pure (q1 hin)
  ·rename_i he
   exact (he _ e).elim
 ·have hno:∀ (i j:Nat),t.place[i]?=some j->(es[i]?.map (·.1)).getD 0≠hshI ns:=fun i j hp z=>by
   have hil:i < es.size:=by rw [<- hsz]; exact (Array.getElem?_eq_some_iff.mp hp).1
   have hei:es[i]?=some es[i]:=Array.getElem?_eq_getElem hil
   obtain ⟨m,hm,hr⟩:=Paired.rev el (show es.toList[i]?=some es[i] by rw [Array.getElem?_toList]; exact hei)
   rw [hei] at z
   have:=inj m (List.mem_of_getElem? hm) (by rw [<- hr.1]; exact z)
   exact hin (this ▸ List.mem_of_getElem? hm)
  obtain ⟨j,e,h1,h2,h3⟩:=Tab.probe_free (hashAt:=fun i=>(es[i]?.map (·.1)).getD 0) ok hno
  split
  ·rename_i met he
   have e':some met=some (SetTable.Met.empty j none):=he.symm.trans e
   injection e' with e'
   subst e'
   exact wpAny_pure (q2 hin j h1 h2 h3)
  ·rename_i he
   exact (he _ e).elim
noncomputable def addOne (ks:List (List Int)) (ns:List Int):List (List Int):=if ns∈ks then ks else ns :: ks
theorem perm_put {α : Type} (l:List α) (p:Nat) (x : α):(l.take p ++ x :: l.drop p).Perm (x :: l):=by
 refine List.perm_middle.trans ?_
 rw [List.take_append_drop]
theorem za2 {α β : Type} {R : α -> β -> Prop}:∀ {l:List α} {m:List β},Paired R l m->l.length=m.length
 | _,_,.nil=>rfl
 | _,_,.cons _ r=>congrArg (· + 1) (za2 r)
theorem zcR {α β : Type} {R : α -> β -> Prop}:∀ {l:List α} {m:List β} (p:Nat),Paired R l m->Paired R (l.take p) (m.take p)
 | _,_,0,_ => .nil
 | _,_,_ + 1,.nil => .nil
 | _,_,p + 1,.cons h r => .cons h (zcR p r)
theorem zcS {α β : Type} {R : α -> β -> Prop}:∀ {l:List α} {m:List β} (p:Nat),Paired R l m->Paired R (l.drop p) (m.drop p)
 | _,_,0,r=>r
 | _,_,_ + 1,.nil => .nil
 | _,_,p + 1,.cons _ r=>zcS p r
theorem zce {α β : Type} {R : α -> β -> Prop}:∀ {l:List α} {x : α} {m:List β},Paired R (l ++ [x]) m->∃ m0 y,m=m0 ++ [y]/\Paired R l m0/\R x y
 | [],_,_,.cons h .nil=>⟨[],_,rfl,.nil,h⟩
 | _ :: l,_,_,.cons h r=>by
  obtain ⟨m0,y,rfl,r1,r2⟩:=zce (l:=l) r
  exact ⟨_ :: m0,y,rfl,.cons h r1,r2⟩
theorem zcp {α β : Type} {R : α -> β -> Prop}:∀ {l l':List α} {m m':List β},Paired R l m->Paired R l' m'->Paired R (l ++ l') (m ++ m')
 | _,_,_,_,.nil,r=>r
 | _,_,_,_,.cons h r,r' => .cons h (zcp r r')
theorem zcQ {α β : Type} {R : α -> β -> Prop} {l:List α} {m:List β} (r:Paired R l m):∀ (o:List Nat),Paired R (o.filterMap fun i=>l[i]?) (o.filterMap fun i=>m[i]?)
 | [] => .nil
 | i :: o=>by
  rw [List.filterMap_cons,List.filterMap_cons]
  cases e:l[i]? with
  | some x =>
   obtain ⟨y,ey,h⟩:=Paired.at r e
   rw [ey]
   exact .cons h (zcQ r o)
  | none =>
   have:m[i]?=none:=by
    rw [List.getElem?_eq_none_iff] at e ⊢
    rw [<- za2 r]; exact e
   rw [this]
   exact zcQ r o
theorem zeR {α : Type} {m:List α} (f : α -> Int):∀ {o:List Nat},(∀ i∈o,i < m.length)->(o.filterMap fun i=>m[i]?).map f=o.map fun i=>(m.map f).toArray.getD i 0
 | [],_=>rfl
 | i :: o,h=>by
  have hi:=h i List.mem_cons_self
  rw [List.filterMap_cons,List.getElem?_eq_getElem hi,List.map_cons,List.map_cons,zeR f fun j hj=>h j (List.mem_cons_of_mem _ hj)]
  simp [Array.getD,hi]
theorem relay_room {mask n:Nat} (hm:Tab.Mask mask) (h1:n * 5 < mask * 3) (h2:mask * 3<=(n + 1) * 5) (h3:n < 200):Tab.Mask (SetTable.sizeAbove (SetTable.grown (n + 1)) - 1)/\(n + 1) * 5 < (SetTable.sizeAbove (SetTable.grown (n + 1)) - 1) * 3/\SetTable.sizeAbove (SetTable.grown (n + 1))<=512:=by
 have:n=4\/n=18\/n=76:=by
  rcases hm with rfl | rfl | rfl | rfl <;> omega
 unfold Tab.Mask
 rcases this with rfl | rfl | rfl <;> decide +kernel
theorem set_add {B:Addr->Prop} {a b:Addr} {ks:List (List Int)} {ns:List Int} {Q:Bool->Shared->Prop} (hu:A.units < cLine) (hB:B b) (hS:SetAt P w B s.heap a ks) (hk:IsTupleKey (mixKind P w) s.heap (kI ns) b) (inj:∀ m∈ks,hshI m=hshI ns->m=ns) (hl:ks.length < 200)
  (q:∀ r h',Heap.SameBut a s.heap h'->SetAt P w B h' a (addOne ks ns)->Q r { s with heap:=h' }):wpAny (model P w) A (setAddHashed a (.ref b) (hshI ns)) Q E s:=by
 obtain ⟨o,es,ep,t,ms,ho,hex,hd,ok,pm,el⟩:=hS
 have hf:=zdq ok
 have hml:ms.length=es.size:=by rw [za2 el,Array.length_toList]
 have hsz:t.place.size=es.size:=by have:=ok.size; rwa [List.length_map,Array.length_toList] at this
 have hn:es.size < 200:=by rw [<- hml,pm.length_eq]; exact hl
 have keepK:∀ (es':Array (Int×Value)) (t':SetTable) (h0:Heap) (o0:Obj),h0.get? a=some o0->(∃ es ep t,o0.data = .set es ep t)->∀ k c,IsTupleKey (mixKind P w) h0 k c->IsTupleKey (mixKind P w) (h0.update a (Obj.putSet es' t')) k c:=by
  rintro es' t' h0 o0 h00 ⟨es0,ep0,t0,h01⟩ k c ⟨ob,its,m,e1,e2,e3,r⟩
  refine ⟨ob,its,m,?_,e2,e3,r⟩
  rw [<- e1]
  refine (Heap.SameBut.update h0 a (Obj.putSet es' t')).2 c fun z => ?_
  rw [z,h00] at e1
  cases e1
  rw [h01] at e3
  cases e3
 unfold setAddHashed setAddHashedIn
 refine wpAny_holding (wpAny_bind (wpAny_setState_of ho hd hf ?_))
 dsimp only
 rw [show byScan (.ref b) es=false from rfl]
 simp only [Bool.false_eq_true,if_false]
 unfold setSearch
 refine wpAny_bind (set_search hu 99999 ho hd ok el hk (fun m hm=>inj m (pm.mem_iff.mp hm)) (fun hin => ?_) fun hin j hj hjm hr => ?_)
 ·have:=q false s.heap (Heap.SameBut.refl a s.heap) ⟨o,es,ep,t,ms,ho,hex,hd,ok,by unfold addOne; rw [if_pos (pm.mem_iff.mp hin)]; exact pm,el⟩
  exact wpAny_pure this
 ·dsimp only
  refine wpAny_bind (wpAny_setState_of ho hd hf ?_)
  dsimp only
  obtain ⟨p1,p2,p3,p4,p5,p6,p7⟩:=Tab.put_ok ok hj hjm hr
  have hbv:∀ (c:Prop) [Decidable c] {f:Bool->Sem Bool},(∀ r,wpAny (model P w) A (f r) Q E s)->wpAny (model P w) A (if c then hashByValue 8 (.ref b) >>= f else pure true >>= f) Q E s:=fun c _ {f} hq=>by
   split
   ·exact wpAny_bind (tup_byhash (n:=7) hk hq)
   ·exact wpAny_bind (wpAny_pure (hq _))
  refine hbv _ fun r => ?_
  generalize hT:(if r=true then (t.put j).1 else { (t.put j).1 with plain:=false })=T
  have t1:T.place=(t.put j).1.place:=by rw [<- hT]; split <;> rfl
  have t2:T.dummies=(t.put j).1.dummies:=by rw [<- hT]; split <;> rfl
  have t3:T.mask=(t.put j).1.mask:=by rw [<- hT]; split <;> rfl
  have ep2:(t.put j).2=SetTable.below t.place j:=rfl
  generalize hE:SetTable.insertAt es (t.put j).2 (hshI ns,Value.ref b)=es1
  have el1:es1.toList=es.toList.take (SetTable.below t.place j) ++ (hshI ns,Value.ref b) :: es.toList.drop (SetTable.below t.place j):=by rw [<- hE,ep2]; exact SetTable.toList_insertAt _ _ _
  have hs1:es1.size=es.size + 1:=by
   rw [<- Array.length_toList,el1]
   simp only [List.length_append,List.length_cons,List.length_take,List.length_drop,Array.length_toList]
   omega
  have eh1:es1.toList.map (·.1)=(es.toList.map (·.1)).take (SetTable.below t.place j) ++ hshI ns :: (es.toList.map (·.1)).drop (SetTable.below t.place j):=by
   rw [el1,List.map_append,List.map_cons,List.map_take,List.map_drop]
  have pt1:T.place.size=es1.size:=by rw [t1,p7,List.length_map,Array.length_toList,hs1]
  have hroom:=ok.room
  rw [hsz] at hroom
  have hf1:T.fits es1.size=true:=by
   simp only [SetTable.fits,SetTable.fill,t2,p2,Bool.and_eq_true,beq_iff_eq,decide_eq_true_eq]
   refine ⟨pt1,?_⟩
   rw [pt1,hs1,t3,p3]
   rcases ok.mask with z | z | z | z <;> rw [z] at hroom ⊢ <;> simp <;> omega
  have ms1:Paired (ElR P w B s.heap) (ms.take (SetTable.below t.place j) ++ ns :: ms.drop (SetTable.below t.place j)) es1.toList:=by
   rw [el1]
   exact zcp (zcR _ el) (.cons ⟨rfl,b,rfl,hB,hk⟩ (zcS _ el))
  have pm1:(ms.take (SetTable.below t.place j) ++ ns :: ms.drop (SetTable.below t.place j)).Perm (addOne ks ns):=by
   unfold addOne
   rw [if_neg fun z=>hin (pm.mem_iff.mpr z)]
   exact (perm_put _ _ _).trans (pm.cons ns)
  have ho1:(s.heap.update a (Obj.putSet es1 T)).get? a=some { o with data := .set es1 (ep + 1) T }:=by
   have:=Heap.get?_update_self (Obj.putSet es1 T) ho (by rw [putSet_of es1 T hd]; rfl)
   rw [putSet_of es1 T hd] at this; exact this
  refine wpAny_bind (wpAny_storeSet_of ho hd ?_ (fits_of_scanBound (by unfold scanBound; omega)))
  have sb1:=Heap.SameBut.update s.heap a (Obj.putSet es1 T)
  have el2:=Paired.mapP ms1 fun m e ⟨x1,c,x2,x3,x4⟩=>(⟨x1,c,x2,x3,keepK es1 T s.heap o ho ⟨_,_,_,hd⟩ _ _ x4⟩:ElR P w B (s.heap.update a (Obj.putSet es1 T)) m e)
  by_cases full:T.tooFull=true
  ·rw [if_pos (by rw [full]; rfl)]
   have hfl:t.mask * 3<=(es.size + 1) * 5:=by
    unfold SetTable.tooFull SetTable.fill at full
    rw [t2,p2,pt1,hs1,t3,p3] at full
    simpa using full
   obtain ⟨r1,r2,r3⟩:=relay_room ok.mask hroom hfl hn
   have hhs:(es1.map (·.1)).size=es.size + 1:=by rw [Array.size_map,hs1]
   obtain ⟨T2,order,eT,op,ok2⟩:=Tab.relaid_ok (t:=T) (hs:=es1.map (·.1)) (wanted:=SetTable.grown (es.size + 1)) r1 (by rw [hhs]; exact r2)
   rw [hhs] at op
   have hlt:∀ i∈order.toList,i < es1.toList.length:=fun i hi=>by
    rw [Array.length_toList,hs1]
    exact List.mem_range.mp (op.mem_iff.mp hi)
   have e2l:(order.filterMap (es1[·]?)).toList=order.toList.filterMap fun i=>es1.toList[i]?:=by
    rw [Array.toList_filterMap]
    refine congrArg (fun f=>order.toList.filterMap f) (funext fun i => ?_)
    rw [Array.getElem?_toList]
   have e2s:(order.filterMap (es1[·]?)).size=es1.size:=by
    rw [<- Array.length_toList,e2l]
    have:=(op.filterMap fun i=>es1.toList[i]?).length_eq
    rw [this,<- hs1,<- Array.length_toList,List.filterMap_getElem?_range_length]
   unfold setRelay
   refine wpAny_bind (wpAny_bind (wpAny_setState_of ho1 rfl hf1 ?_))
   dsimp only
   rw [if_neg (by have:(1000:Nat)<=sizeLine:=zaQ; omega)]
   rw [eT]
   refine wpAny_bind ?_
   show wpAny (model P w) A (do
    if (order.filterMap (es1[·]?)).size != es1.size then unsupported "internal:set-table-lost-an-element"
    pure (order.filterMap (es1[·]?),T2)) _ E _
   rw [if_neg (by rw [e2s]; simp)]
   refine wpAny_bind (wpAny_pure (wpAny_pure ?_))
   dsimp only
   refine wpAny_storeSet_of ho1 rfl (wpAny_pure ?_) (fits_of_scanBound (by rw [e2s]; unfold scanBound; omega))
   refine q true _ (sb1.trans (Heap.SameBut.update _ a _)) ⟨{ o with data := .set (order.filterMap (es1[·]?)) (ep + 1 + 1) T2 },order.filterMap (es1[·]?),ep + 1 + 1,T2,order.toList.filterMap fun i=>(ms.take (SetTable.below t.place j) ++ ns :: ms.drop (SetTable.below t.place j))[i]?,?_,hex,rfl,?_,?_,?_⟩
   ·have:=Heap.get?_update_self (Obj.putSet (order.filterMap (es1[·]?)) T2) ho1 (by rw [putSet_of _ T2 rfl]; rfl)
    rw [putSet_of _ T2 rfl] at this; exact this
   ·rw [e2l,zeR (fun e=>e.1) hlt]
    rw [show (es1.toList.map fun e=>e.1).toArray=es1.map (·.1) by rw [<- Array.toList_map]]
    exact ok2
   ·refine List.Perm.trans ?_ pm1
    refine (op.filterMap _).trans ?_
    rw [<- hs1,<- Array.length_toList,<- za2 ms1,List.filterMap_getElem?_range_length]
   ·rw [e2l]
    exact Paired.mapP (zcQ el2 order.toList) fun m e ⟨x1,c,x2,x3,x4⟩=>⟨x1,c,x2,x3,keepK _ T2 _ _ ho1 ⟨_,_,_,rfl⟩ _ _ x4⟩
  ·rw [if_neg (by rw [Bool.eq_false_iff.mpr full]; decide)]
   refine wpAny_pure (q true _ sb1 ⟨{ o with data := .set es1 (ep + 1) T },es1,ep + 1,T,_,ho1,hex,rfl,?_,pm1,el2⟩)
   refine ⟨by rw [pt1,List.length_map,Array.length_toList],by rw [t2,p2],by rw [t3,p3]; exact ok.mask,by rw [t1]; exact p4,by rw [t1,t3,p3]; exact p5,?_,?_⟩
   ·have:=Bool.eq_false_iff.mpr full
    unfold SetTable.tooFull SetTable.fill at this
    rw [t2,p2] at this
    simpa using this
   ·rw [t1,t3,p3,eh1]
    exact p6
theorem SetAt.keep {B:Addr->Prop} {h h':Heap} {a:Addr} {ks:List (List Int)} (S:SetAt P w B h a ks) (ha:∀ o,h.get? a=some o->h'.get? a=some o) (hb:∀ b o,B b->h.get? b=some o->h'.get? b=some o):SetAt P w B h' a ks:=by
 obtain ⟨o,es,ep,t,ms,ho,hex,hd,ok,pm,el⟩:=S
 refine ⟨o,es,ep,t,ms,ha _ ho,hex,hd,ok,pm,Paired.mapP el fun m e ⟨x1,c,x2,x3,ob,its,k,e1,e2,e3,r⟩=>⟨x1,c,x2,x3,ob,its,k,hb _ _ x3 e1,e2,e3,r⟩⟩
noncomputable def addAll (l:List (List Int)):List (List Int):=l.foldl addOne []
theorem addAll_snoc (l:List (List Int)) (x:List Int):addAll (l ++ [x])=addOne (addAll l) x:=by unfold addAll; rw [List.foldl_append]; rfl
theorem addOne_mem {ks:List (List Int)} {ns x:List Int}:x∈addOne ks ns ↔ x=ns\/x∈ks:=by
 unfold addOne
 split
 ·rename_i h
  exact ⟨.inr,fun z=>z.elim (fun e=>e ▸ h) id⟩
 ·exact List.mem_cons
theorem addOne_nd {ks:List (List Int)} {ns:List Int} (nd:ks.Nodup):(addOne ks ns).Nodup:=by
 unfold addOne
 split
 ·exact nd
 ·rename_i h
  exact List.nodup_cons.mpr ⟨h,nd⟩
theorem addOne_len (ks:List (List Int)) (ns:List Int):(addOne ks ns).length<=ks.length + 1:=by
 unfold addOne
 split <;> simp
theorem zcs:∀ (l acc:List (List Int)),acc.Nodup->(l.foldl addOne acc).Nodup/\(∀ x,x∈l.foldl addOne acc ↔ x∈acc\/x∈l)/\(l.foldl addOne acc).length<=acc.length + l.length
 | [],acc,nd=>⟨nd,by simp,Nat.le_refl _⟩
 | y :: l,acc,nd=>by
  obtain ⟨h1,h2,h3⟩:=zcs l (addOne acc y) (addOne_nd nd)
  refine ⟨h1,fun x => ?_,?_⟩
  ·rw [List.foldl_cons,h2,addOne_mem,List.mem_cons]
   constructor
   ·rintro ((a | a) | a)
    ·exact .inr (.inl a)
    ·exact .inl a
    ·exact .inr (.inr a)
   ·rintro (a | a | a)
    ·exact .inl (.inr a)
    ·exact .inl (.inl a)
    ·exact .inr a
  ·have:=addOne_len acc y
   rw [List.foldl_cons,List.length_cons]
   omega
theorem set_loop {B:Addr->Prop} {R:Result->Shared->Prop} {I S:Addr} {fp wr:List Addr} {G:Array GenState->Array GenState->Prop} {n:Nat} {Pv:Nat->Value->Prop} {St:Nat->Shared->Prop} (hu:A.in1.units < cLine) (W:WalksS P w A.in1 I fp wr G n Pv St) (hSf:S ∉ fp)
  (nss:List (List Int)) (hnl:nss.length=n) (h200:n<=200) (inj:∀ x∈nss,∀ y∈nss,hshI x=hshI y->x=y) (hB:∀ b,B b->b≠S/\b ∉ wr) :
  ∀ (k i:Nat) (s:Shared),n - i=k->i<=n->St i s->(∀ (j:Nat) (v:Value) (ns:List Int),Pv j v->nss[j]?=some ns->∃ b,v = .ref b/\B b/\IsTupleKey (mixKind P w) s.heap (kI ns) b)->SetAt P w B s.heap S (addAll (nss.take i)) ->
   (∀ s',Moved (S :: wr) G s s'->SetAt P w B s'.heap S (addAll nss)->R (.ok (.ret .none)) s')->codeAny (model P w) A (.builtin "set.update.loop" ⟨[.ref S,.ref I],[]⟩) R s:=by
 have hSw:S ∉ wr:=fun h=>hSf (W.sub _ h)
 have hsub:∀ b∈wr,b∈S :: wr:=fun b hb=>List.mem_cons_of_mem _ hb
 intro k
 induction k with
 | zero =>
  intro i s hk hi hst hV hS hR
  have hin:i=n:=by omega
  subst hin
  refine codeAny_builtin PyProof.Rows.F.entry_set_update_loop ?_
  rw [Around.under_plainId PyProof.Rows.F.plain_set_update_loop _]
  show wpAny _ A.in1 (pyNext (.ref I) >>= _) _ _ s
  refine wpAny_bind (W.done s _ _ hst fun s' hm => ?_)
  show wpAny _ A.in1 (ret Value.none) _ _ s'
  refine wpAny_pure (hR s' (hm.mono hsub) ?_)
  rw [List.take_of_length_le (by omega)] at hS
  exact hS.keep (fun o e=>hm.heap S o hSw e) fun b o hb e=>hm.heap b o (hB b hb).2 e
 | succ k ih =>
  intro i s hk hi hst hV hS hR
  have hlt:i < n:=by omega
  refine codeAny_builtin PyProof.Rows.F.entry_set_update_loop ?_
  rw [Around.under_plainId PyProof.Rows.F.plain_set_update_loop _]
  show wpAny _ A.in1 (pyNext (.ref I) >>= _) _ _ s
  refine wpAny_bind (W.item i s _ _ hlt hst fun v s' hP hst' hm => ?_)
  have hV':∀ (j:Nat) (v:Value) (ns:List Int),Pv j v->nss[j]?=some ns->∃ b,v = .ref b/\B b/\IsTupleKey (mixKind P w) s'.heap (kI ns) b:=fun j v ns h1 h2=>by
   obtain ⟨b,e,hb,ob,its,m,e1,e2,e3,r⟩:=hV j v ns h1 h2
   exact ⟨b,e,hb,ob,its,m,hm.heap b ob (hB b hb).2 e1,e2,e3,r⟩
  have hS':SetAt P w B s'.heap S (addAll (nss.take i)):=hS.keep (fun o e=>hm.heap S o hSw e) fun b o hb e=>hm.heap b o (hB b hb).2 e
  have hei:nss[i]?=some nss[i]:=List.getElem?_eq_getElem (by omega)
  obtain ⟨b,rfl,hb,hk'⟩:=hV' i v _ hP hei
  show wpAny _ A.in1 (holding [Value.ref b] (setAdd S (.ref b)) >>= _) _ _ s'
  refine wpAny_bind (wpAny_holding ?_)
  unfold setAdd
  refine wpAny_holding ?_
  refine wpAny_bind (wpAny_pyHash_tuple hu hk' ?_)
  have eh:tupleKeyHash (mixKind P w) (kI nss[i])=hshI nss[i]:=zfN P w _
  rw [eh]
  have hal:=zcs (nss.take i) [] List.nodup_nil
  refine set_add (s:={ s' with toks:=s'.toks + ((kI nss[i]).length + 1) }) hu hb hS' hk' (fun m hm' => ?_) ?_ fun r h' hsb hS2 => ?_
  ·have:=(hal.2.1 m).mp hm'
   exact inj m (List.mem_of_mem_take (this.elim (fun z=>by cases z) id)) _ (List.getElem_mem _)
  ·have:=hal.2.2
   rw [List.length_take] at this
   show ((nss.take i).foldl addOne []).length < 200
   simp only [List.length_nil] at this
   omega
  ·refine wpAny_pure ⟨plainId_quiet PyProof.Rows.F.plain_set_update_loop _,ih (i + 1) _ (by omega) hlt (W.frame _ s' _ _ hst' (Nat.le_add_right _ _) fun b' hb' o e => ?_) (fun j v ns h1 h2 => ?_) ?_ fun s'' hm'' hS'' => ?_⟩
   ·rw [hsb.2 b' (fun h=>hSf (by rw [<- h]; exact hb'))]; exact e
   ·obtain ⟨b2,e,hb2,ob,its,m,e1,e2,e3,r⟩:=hV' j v ns h1 h2
    refine ⟨b2,e,hb2,ob,its,m,?_,e2,e3,r⟩
    rw [<- e1]
    exact hsb.2 b2 (hB b2 hb2).1
   ·rw [List.take_add_one,hei]
    show SetAt P w B h' S (addAll (nss.take i ++ [nss[i]]))
    rw [addAll_snoc]
    exact hS2
   ·refine hR s'' (Moved.trans W.gtrans ((hm.mono hsub).then_heap (Nat.le_add_right _ _) fun b' o hb' e => ?_) hm'') hS''
    rw [hsb.2 b' (fun h=>hb' (by rw [h]; exact List.mem_cons_self))]; exact e
theorem setAt_fresh {B:Addr->Prop} {h:Heap} {a:Addr} {led:Bool} (e:h.get? a=some { cls := .type "set",dict:=none,data := .set #[] 0 (.fresh 0 0 led) }):SetAt P w B h a [] :=
 ⟨_,#[],0,_,[],e,⟨rfl,rfl,rfl⟩,rfl,⟨rfl,rfl,.inl rfl,by simp [SetTable.fresh],by simp [SetTable.fresh],show 0 * 5 < 7 * 3 by decide,fun i j h' e1 e2=>by simp at e2⟩,.nil,.nil⟩
set_option maxHeartbeats 4000000 in
theorem set_tups {l:Addr} {items:Array Value} {nss:List (List Int)} {B:Addr->Prop} {Q:Value->Shared->Prop} (hu:A.units + 8 < cLine) (hh:A.handled=none) (hl:s.heap.IsList l items) (h200:items.size<=200)
  (hi:Paired (fun (ns:List Int) (v:Value)=>∃ b,v = .ref b/\B b/\IsTupleKey (mixKind P w) s.heap (kI ns) b) nss items.toList) (inj:∀ x∈nss,∀ y∈nss,hshI x=hshI y->x=y) (hB:∀ b,B b->b < s.heap.objs.size)
  (h:∀ (h':Heap) (tk:Nat),SetAt P w B h' s.heap.objs.size (addAll nss)->(∀ b o,b < s.heap.objs.size->s.heap.get? b=some o->h'.get? b=some o)->Q (.ref s.heap.objs.size) { s with heap:=h',toks:=tk }) :
  wpAny (model P w) A (call (.type "set") [.ref l]) Q E s:=by
 obtain ⟨c,tl,hmro⟩:=F.called_set.mro
 have hmade:=F.called_set.made
 have hsub:=F.called_set.sub
 refine wpAny_call (codeAny_of_tree (show wpAny _ _ (callAny (.type "set") _) _ _ _ from wpAny_pure ⟨Code.quiet_builtin _ (by decide +kernel),codeAny_builtin F.entry_type_call ?_⟩))
 rw [Around.under_plain (weight_type_call_type "set" [.ref l] []) rfl]
 have h1:=F.called_set.notType
 have h2:=F.called_set.canCreate
 have hct:=F.typeCall_set_1 (.ref l)
 repeat (any_goals (first | assumption | wp_step))
 refine codeAny_mono (code_set_new_1 (.ref l) (E:=E) (Q₁ := fun obj s₁ => ∃ led:Bool,obj = .ref s.heap.objs.size/\s₁ = { s with heap:=s.heap.push { cls := .type "set",dict:=none,data := .set #[] 0 (.fresh 0 0 led) } }) fun led=>⟨led,rfl,rfl⟩) fun r s₁ hr => ?_
 cases r with
 | error e=>exact hr
 | ok fl =>
 cases fl with
 | ret obj =>
  obtain ⟨led,rfl,rfl⟩:=hr
  have hS:(s.heap.push { cls := .type "set",dict:=none,data := .set #[] 0 (.fresh 0 0 led) }).get? s.heap.objs.size=some { cls := .type "set",dict:=none,data := .set #[] 0 (.fresh 0 0 led) }:=Heap.get?_push_size _ rfl
  have hT:Shared.TypeIs { s with heap:=s.heap.push { cls := .type "set",dict:=none,data := .set #[] 0 (.fresh 0 0 led) } } (.ref s.heap.objs.size) "set" := ⟨_,hS,rfl⟩
  have hli:=F.called_set.init.lookup
  have hbi:=F.called_set.init.bind (.ref s.heap.objs.size)
  repeat (any_goals (first | assumption | wp_step))
  refine codeAny_mono (codeAny_call_builtin (R:=wants (fun r s₂ => r = .none/\∃ h' tk,s₂ = { s with heap:=h',toks:=tk }/\SetAt P w B h' s.heap.objs.size (addAll nss)/\(∀ b o,b < s.heap.objs.size->s.heap.get? b=some o->h'.get? b=some o)) E) F.called_set.init.plain F.entry_set_init (check_set_init_1 hT ?_)) fun r₂ s₂ hr₂ => ?_
  ·obtain ⟨ol,hol,hcl,nl,hdl⟩:=hl
   obtain ⟨ocls,odict,odata,oslots⟩:=ol
   simp only at hcl hdl
   subst hcl hdl
   have hol':(s.heap.push { cls := .type "set",dict:=none,data := .set #[] 0 (.fresh 0 0 led) }).get? l=some { cls := .type "list",dict:=odict,data := .seq items nl,slots:=oslots }:=Heap.get?_push_of_some _ hol
   have hsls:=F.sub_list_set
   have hslf:=F.sub_list_frozenset
   have hne:(Value.type "list" == Value.type "dict")=false:=by decide
   have hl1:(s.heap.push { cls := .type "set",dict:=none,data := .set #[] 0 (.fresh 0 0 led) }).IsList l items:=⟨_,hol',rfl,nl,rfl⟩
   unfold Builtin.«set.__init__» noKeywords Builtin.Frozenset.updateFrom
   generalize hPI:pyIter=PI
   wp_walk
   subst hPI
   refine wpAny_pyIter_list hl1 (wpAny_bind (wpAny_runValue ?_))
   have hlS:l < s.heap.objs.size:=Heap.lt_size hol
   have hh3:A.in1.in1.in1.handled=none:=by simp [hh]
   have hneI:l≠(s.heap.push { cls := .type "set",dict:=none,data := .set #[] 0 (.fresh 0 0 led) }).objs.size:=by rw [Heap.size_push]; exact Nat.ne_of_lt (Nat.lt_succ_of_lt hlS)
   have hSf:s.heap.objs.size ∉ [(s.heap.push { cls := .type "set",dict:=none,data := .set #[] 0 (.fresh 0 0 led) }).objs.size,l]:=by
    rw [Heap.size_push]
    simp only [List.mem_cons,List.not_mem_nil,or_false,not_or]
    exact ⟨Nat.ne_of_lt (Nat.lt_succ_self _),Nat.ne_of_gt hlS⟩
   have hBw:∀ b,B b->b≠s.heap.objs.size/\b ∉ [(s.heap.push { cls := .type "set",dict:=none,data := .set #[] 0 (.fresh 0 0 led) }).objs.size]:=fun b hb=>by
    have:=hB b hb
    rw [Heap.size_push]
    simp only [List.mem_cons,List.not_mem_nil,or_false]
    exact ⟨Nat.ne_of_lt this,Nat.ne_of_lt (Nat.lt_succ_of_lt this)⟩
   have hlen:nss.length=items.size:=by rw [za2 hi,Array.length_toList]
   refine set_loop (by simp only [units_in1]; omega) ((Walks.list hh3 _ l hneI items).toS) hSf nss hlen h200 inj hBw (items.size - 0) 0 _ (by omega) (Nat.zero_le _) ⟨⟨_,Heap.get?_push_size _ rfl,rfl,rfl⟩,hl1.push _⟩ ?_ ?_ ?_
   ·intro j v ns hv hj
    obtain ⟨v',hv',b,e,hb,hk⟩:=Paired.at hi hj
    have:v'=v:=by
     rw [Array.getElem?_toList] at hv'
     exact Option.some.inj (hv'.symm.trans hv)
    subst this
    obtain ⟨ob,its,m,e1,e2,e3,r⟩:=hk
    exact ⟨b,e,hb,ob,its,m,Heap.get?_push_of_some _ (Heap.get?_push_of_some _ e1),e2,e3,r⟩
   ·exact setAt_fresh (led:=led) (Heap.get?_push_of_some _ hS)
   ·intro s' hm hS'
    obtain ⟨h',g',d',tk',os'⟩:=s'
    obtain rfl:g'=s.gens:=hm.gens
    obtain rfl:d'=s.drawn:=hm.drawn
    obtain rfl:os'=s.os:=hm.os
    refine wpAny_pure ?_
    show wpAny _ _ (ret Value.none) _ _ _
    refine wpAny_pure ⟨rfl,h',tk',rfl,hS',fun b o hb e=>hm.heap b o ?_ (Heap.get?_push_of_some _ (Heap.get?_push_of_some _ e))⟩
    rw [Heap.size_push]
    simp only [List.mem_cons,List.not_mem_nil,or_false,not_or]
    exact ⟨Nat.ne_of_lt hb,Nat.ne_of_lt (Nat.lt_succ_of_lt hb)⟩
  ·cases r₂ with
   | error e=>exact hr₂
   | ok fl₂ =>
    cases fl₂ with
    | ret r =>
     obtain ⟨rfl,h',tk,rfl,hS',hk⟩:=hr₂
     have hq:=h h' tk hS' hk
     repeat (any_goals (first | assumption | wp_step))
    | _=>exact hr₂.elim
 | _=>exact hr.elim
end
section
variable {X:Cx}
noncomputable def setHas (a:Addr) (n:Nat) (h:Heap):Prop:=∃ (o:Obj) (es:Array (Int×Value)) (ep:Nat) (t:SetTable),h.get? a=some o/\o.ExactSet/\o.data = .set es ep t/\t.fits es.size=true/\es.size=n/\n<=200
theorem call_setT (hu:X.A.units + 64 < cLine) (hc:X.calm=true):CallR X (.type "set") (fun xs H Q=>∃ (a:Addr) (ws:List V) (nss:List (List Int)),xs = [V.ref a]/\SqL X.K H a ws/\Paired (fun (ns:List Int) (v:V)=>∃ q,v = .ref q/\H q=some (.tup (ns.map V.int))) nss ws/\nss.length<=200/\(∀ x∈nss,∀ y∈nss,hshI x=hshI y->x=y) /\
  ∀ p (ks:List (List Int)),H p=none->ks.Nodup->(∀ x,x∈ks ↔ x∈nss)->Q (.ref p) (upd H p (.ext (setHas p ks.length)))):=by
 intro pins s σ H xs us Q I r h
 obtain ⟨a,ws,nss,rfl,hq,hw,h200,inj,q⟩:=h
 obtain ⟨u,rfl,ru⟩:=zbq r
 cases ru
 obtain ⟨its,rv,p,hz⟩:=I.list hq
 have hlw:nss.length=its.length:=(za2 hw).trans rv.length
 have all:=zcs nss [] List.nodup_nil
 refine set_tups (items:=its.toArray) (nss:=nss) (B:=fun b=>b < s.heap.objs.size) (by omega) (I.ok.hd hc) p.isList (by simp; omega) ?_ inj (fun b hb=>hb) fun h' tk hS k => ?_
 ·have:∀ {nss:List (List Int)} {ws:List V} {its:List Value},Paired (fun (ns:List Int) (v:V)=>∃ q,v = .ref q/\H q=some (.tup (ns.map V.int))) nss ws->Vals ws its->Paired (fun (ns:List Int) (v:Value)=>∃ b,v = .ref b/\b < s.heap.objs.size/\IsTupleKey (mixKind X.prog X.w) s.heap (kI ns) b) nss its:=by
   intro nss ws its h1
   induction h1 generalizing its with
   | nil=>intro h2; cases h2; exact .nil
   | @cons ns v nss' ws' h1 _ ih =>
    intro h2
    obtain ⟨q,rfl,hq⟩:=h1
    cases h2 with
    | cons r rr =>
     cases r
     refine .cons ⟨q,rfl,?_,zdj I.hok (by rw [kI_V]; exact hq)⟩ (ih rr)
     exact (I.hok q _ hq).lt
  simpa using this hw rv
 ·obtain ⟨o,es,ep,t,ms,ho,hex,hd,ok,pm,el⟩:=hS
  have hn:es.size=(addAll nss).length:=by rw [<- Array.length_toList,<- za2 el,pm.length_eq]
  have hle:(addAll nss).length<=200:=Nat.le_trans all.2.2 (by simpa using h200)
  have I':Inv X pins σ (upd H s.heap.objs.size (.ext (setHas s.heap.objs.size (addAll nss).length))) { s with heap:=h',toks:=tk } :=
   I.laid (fun b o e=>k b o (Heap.lt_size e) e) (Nat.le_refl _) ⟨⟨o,es,ep,t,ho,hex,hd,zdq ok,hn,hle⟩,⟨o,ho⟩,fun h1 h2 ⟨o',es',ep',t',g,r⟩ m=>⟨o',es',ep',t',m o' g,r⟩⟩
  exact ⟨.ref _,_,I',rfl,q _ (addAll nss) (I.hok.fresh (Nat.le_refl _)) all.1 fun x=>by rw [show x∈addAll nss ↔ _ from all.2.1 x]; simp⟩
theorem call_lenX:CallR X (.builtin "len") (fun xs H Q=>∃ a n,xs = [V.ref a]/\H a=some (.ext (setHas a n))/\Q (.int (n:Nat)) H):=by
 intro pins s σ H xs us Q I r h
 obtain ⟨a,n,rfl,hq,q⟩:=h
 obtain ⟨u,rfl,ru⟩:=zbq r
 cases ru
 obtain ⟨o,es,ep,t,h1,h2,h3,h4,h5,h6⟩:=(I.hok a _ hq).1
 have hfit:(es.size:Int) < 2 ^ 63:=by
  have:(es.size:Int)<=200:=by omega
  exact Int.lt_of_le_of_lt this (by decide)
 exact call_len_set h1 h2 h3 h4 hfit ⟨.int n,H,I.tok _,⟨_,by rw [h5]⟩,q⟩
end
section
variable {X:Cx} {tg:Expr}
end
end L2
set_option maxHeartbeats 4000000
namespace K13
open PySem L2 PyProof.Rows
noncomputable def top (i:Nat):Stmt:=PySem.Challenge.pw_combstrip_k13_strip_comes_again.main.body.getD i (.Pass ⟨0,0,0,0⟩)
noncomputable abbrev s__wall:Stmt:=top 0
noncomputable abbrev s_shape_steps:Stmt:=top 17
noncomputable abbrev s_teeth_worth:Stmt:=top 18
noncomputable abbrev s_step_table:Stmt:=top 19
noncomputable abbrev s_shapes_behind:Stmt:=top 20
noncomputable abbrev s_rows_going_on:Stmt:=top 22
noncomputable abbrev s_narrow_row:Stmt:=top 23
noncomputable abbrev s_leads_on:Stmt:=top 24
noncomputable abbrev s_walk_round:Stmt:=top 25
noncomputable abbrev s_first_lasting_step:Stmt:=top 26
noncomputable abbrev s_fill_strip:Stmt:=top 28
noncomputable abbrev s_filled_strip:Stmt:=top 29
noncomputable abbrev s_rows_to_the_end:Stmt:=top 30
noncomputable abbrev s_is_name:Stmt:=top 32
noncomputable abbrev s_is_small_letter:Stmt:=top 33
noncomputable abbrev s_are_teeth:Stmt:=top 34
noncomputable abbrev s_Book___init__:Stmt:=inClass (top 36) 0
noncomputable abbrev s_Book_put:Stmt:=inClass (top 36) 1
noncomputable abbrev s_Book_drop:Stmt:=inClass (top 36) 2
noncomputable abbrev s_Book_add_tooth:Stmt:=inClass (top 36) 3
noncomputable abbrev s_Book_take_off:Stmt:=inClass (top 36) 4
noncomputable abbrev s_Book_undo:Stmt:=inClass (top 36) 5
noncomputable abbrev s_Book_deeds:Stmt:=inClass (top 36) 6
noncomputable abbrev s_Book_names:Stmt:=inClass (top 36) 7
noncomputable abbrev s_Book_teeth:Stmt:=inClass (top 36) 8
noncomputable abbrev s_Book_check_comb:Stmt:=inClass (top 36) 9
noncomputable abbrev s_Book_set_comb:Stmt:=inClass (top 36) 10
noncomputable abbrev s_Book_do_deed:Stmt:=inClass (top 36) 11
noncomputable abbrev s_at:Stmt:=top 38
noncomputable abbrev s_mixed:Stmt:=top 39
noncomputable abbrev s_word:Stmt:=top 40
noncomputable abbrev s_spare:Stmt:=top 41
noncomputable abbrev s_menu:Stmt:=top 42
noncomputable abbrev s_combs:Stmt:=top 43
noncomputable abbrev s_book:Stmt:=top 44
noncomputable abbrev s_after:Stmt:=top 45
noncomputable abbrev s_goes:Stmt:=top 46
noncomputable abbrev s_graph:Stmt:=top 47
noncomputable abbrev s_live:Stmt:=top 48
noncomputable abbrev s_whole:Stmt:=top 49
noncomputable abbrev s_laying:Stmt:=top 50
noncomputable abbrev s_layings:Stmt:=top 51
noncomputable abbrev s_stripform:Stmt:=top 52
noncomputable abbrev s_teeth:Stmt:=top 53
noncomputable abbrev s_walk:Stmt:=top 54
noncomputable abbrev s_law:Stmt:=top 55
section
variable {P:Program} {w:World} {K:W.Frag} {mg:Str->Option Value} {base:Heap}
noncomputable def sp_at (K:W.Frag):Sp:=fun vs H Q _=>∃ (a:Addr) (ns:List Int) (k:Int),vs = [.ref a,.int k]/\SqL K H a (ns.map V.int)/\0<=k/\Q (.int (ns.getD k.toNat 0)) H
theorem zgy:FnScope ["_law_script","_law_k"] ["_law_script","_law_k"] (defScope s_at):=⟨rfl,rfl,rfl,by decide +kernel,rfl,by decide +kernel,by decide +kernel⟩
theorem ok_at (D:DefAt K mg "_law_at" s_at) (T:Bn mg):Callee P w K mg base "_law_at" 1 ["_law_script","_law_k"] (sp_at K):=by
 refine D.callee zgy (fun _ _ _ _ _ _=>ln2 fun _ _=>rfl) (fun vs H Q E h => ?_) (fun f cdv A outer s H vs Q E hr h => ?_)
 ·obtain ⟨a,ns,k,rfl,_⟩:=h
  rfl
 ·obtain ⟨a,ns,k,rfl,hS,h0,q⟩:=h
  have S:=zgy
  refine ⟨_,zad (zaF (zaq zgw (pv 1) (zak zao rfl T.n_len PySem.boot_len (zaa (pv 0) zae)) (zat _))
   (zaf (zal (zau zaD (pv 0) (pv 1) (fun _ _=>rfl))))
   (zan))
  (zaf (zal (zab))),?_⟩
  refine ⟨_,rfl,_,rfl,_,_,rfl,.inl hS,_,_,rfl,rfl,_,rfl,?_⟩
  refine ite2 (fun hc => ?_) (fun hc => ?_)
  ·have hc:=of_decide_eq_true hc
   rw [List.length_map] at hc
   exact ⟨_,rfl,_,rfl,_,_,_,_,rfl,rfl,hS,zgt h0 hc,q⟩
  ·have hc:¬ k < (ns.length:Int):=fun z=>hc (decide_eq_true (by rw [List.length_map]; exact z))
   rw [getD_big hc] at q
   exact q
noncomputable def mixed (c k:Int):Int:=((c + 7919 * k + 1) * 48271 % 2147483647 + 104729 * k + 3) * 69621 % 2147483647
noncomputable def sp_mixed:Sp:=fun vs H Q _=>∃ (c k:Int),vs = [.int c,.int k]/\Q (.int (mixed c k)) H
theorem zeK:FnScope ["_law_cell","_law_k","_law_once"] ["_law_cell","_law_k"] (defScope s_mixed):=⟨rfl,rfl,rfl,by decide +kernel,rfl,by decide +kernel,by decide +kernel⟩
theorem ok_mixed (D:DefAt K mg "_law_mixed" s_mixed) (T:Bn mg):Callee P w K mg base "_law_mixed" 1 ["_law_cell","_law_k"] sp_mixed:=by
 refine D.callee zeK (fun _ _ _ _ _ _=>ln2 fun _ _=>rfl) (fun vs H Q E h => ?_) (fun f cdv A outer s H vs Q E hr h => ?_)
 ·obtain ⟨c,k,rfl,_⟩:=h
  rfl
 ·obtain ⟨c,k,rfl,q⟩:=h
  have S:=zeK
  refine ⟨_,zad (zap (i:=2) S.nd rfl (Or.inl rfl) (zaA zbB (zaA zdZ (zaA zbR (zaA zbR (pv 0) (zaA zdZ (zab) (pv 1))) (zab)) (zab)) (zab)))
  (zaf (zal (zaA zbB (zaA zdZ (zaA zbR (zaA zbR (pv 2) (zaA zdZ (zab) (pv 1))) (zab)) (zab)) (zab)))),?_⟩
  refine ⟨_,rfl,_,rfl,_,_,rfl,rfl,.inl ⟨by decide,by decide⟩,_,_,rfl,rfl,_,_,rfl,rfl,_,_,rfl,rfl,.inr ⟨by decide,by decide⟩,_,_,rfl,rfl,by show (0:Int) < 2147483647; decide,?_⟩
  exact ⟨_,rfl,_,rfl,_,_,rfl,rfl,.inl ⟨by decide,by decide⟩,_,_,rfl,rfl,_,_,rfl,rfl,_,_,rfl,rfl,.inr ⟨by decide,by decide⟩,_,_,rfl,rfl,by show (0:Int) < 2147483647; decide,q⟩
noncomputable def sp_whole:Sp:=fun vs H Q _=>∃ (i:Int),vs = [.int i]/\Q (.bl true) H
theorem zeH:FnScope ["_law_found"] ["_law_found"] (defScope s_whole):=⟨rfl,rfl,rfl,by decide +kernel,rfl,by decide +kernel,by decide +kernel⟩
theorem ok_whole (D:DefAt K mg "_law_whole" s_whole) (T:Bn mg):Callee P w K mg base "_law_whole" 1 ["_law_found"] sp_whole:=by
 refine D.callee zeH (fun _ _ _ _ _ _=>ln1 fun _=>rfl) (fun vs H Q E h => ?_) (fun f cdv A outer s H vs Q E hr h => ?_)
 ·obtain ⟨i,rfl,_⟩:=h
  rfl
 ·obtain ⟨i,rfl,q⟩:=h
  have S:=zeH
  refine ⟨_,zaf (zal (zdi (zak (zbj "int") rfl T.n_isinstance boot_isinstance (zaa (pv 0) (zaa (zbI (v := .ty "int") rfl T.n_int boot_int rfl) zae))) (zeS (pe_not (zak (zbj "bool") rfl T.n_isinstance boot_isinstance (zaa (pv 0) (zaa (zbI (v := .ty "bool") rfl T.n_bool boot_bool rfl) zae))))))),?_⟩
  refine ⟨_,rfl,_,_,true,rfl,.int i,rfl,_,rfl,?_⟩
  refine iteT ?_
  exact ⟨_,rfl,_,_,false,rfl,.int i,rfl,_,rfl,q⟩
noncomputable def sp_word:Sp:=fun vs H Q _=>∃ (c b:Int),vs = [.int c,.int b]/\(b=26\/b=2)/\∀ x:Str,isName x=true->Q (.str x) H
theorem zfo:FnScope ["_law_cell","_law_base","_law_word_here","_law_rest","_law_k"] ["_law_cell","_law_base"] (defScope s_word):=⟨rfl,rfl,rfl,by decide +kernel,rfl,by decide +kernel,by decide +kernel⟩
theorem ok_word (D:DefAt K mg "_law_word" s_word) (T:Bn mg):Callee P w K mg base "_law_word" 1 ["_law_cell","_law_base"] sp_word:=by
 refine D.callee zfo (fun _ _ _ _ _ _=>ln2 fun _ _=>rfl) (fun vs H Q E h => ?_) (fun f cdv A outer s H vs Q E hr h => ?_)
 ·obtain ⟨c,b,rfl,_⟩:=h
  rfl
 ·obtain ⟨c,b,rfl,hb,q⟩:=h
  have S:=zfo
  have b0:0 < b:=by omega
  have b1:b<=26:=by omega
  have m0:=Int.emod_nonneg c (show (6:Int)≠0 by decide)
  have m1:=Int.emod_lt_of_pos c p6
  refine ⟨_,zad (zap (i:=2) S.nd rfl (Or.inl rfl) (zaR))
  (zad (zap (i:=3) S.nd rfl (Or.inl rfl) (zaA zbT (pv 0) (zab)))
  (zad (zbi PassesOwn.never rfl (zbF rfl T.n_range (zaa (zaA zbR (zab) (zaA zbB (pv 0) (zab))) zae)) (zas (i:=4) S.nd rfl (Or.inl rfl))
   (zad (zap (i:=2) S.nd rfl (Or.inl rfl) (zaA op_add_str (pv 2) (zau ix_str (zaR) (zaA zbB (pv 3) (pv 1)) (fun _ _=>rfl))))
   (zaf (zap (i:=3) S.nd rfl (Or.inl rfl) (zaA zbT (pv 3) (pv 1))))))
  (zaf (zal (pv 2))))),?_⟩
  refine ⟨_,rfl,_,_,rfl,rfl,⟨p6,by decide⟩,?_⟩
  refine ⟨_,rfl,_,_,rfl,rfl,p6,_,_,rfl,rfl,_,rfl,?_,?_,?_⟩
  ·show -(2 ^ 62)<=1 + c % 6
   omega
  ·show 1 + c % 6 < 2 ^ 62
   omega
  refine zcr (zbd 0 (1 + c % 6).toNat) (fun i σ H'=>H'=H/\∃ (x:Str) (r:Int) (x4:Option V),σ = [some (.int c),some (.int b),some (.str x),some (.int r),x4]/\x.length=i/\x.cps.toList.all small=true) ⟨rfl,Str.ofString "",_,_,rfl,by decide,by decide⟩ (fun _ _ _ _ _=>trivial) ?_ ?_
  ·rintro i x σ H2 hx ⟨rfl,y,r,x4,rfl,hl,ha⟩
   obtain ⟨hi,rfl⟩:=zca hx
   obtain ⟨ch,hch,hs⟩:=abc_at (k:=r % b) (Int.emod_nonneg _ (by omega)) (by have:=Int.emod_lt_of_pos r b0; omega)
   refine ⟨_,rfl,_,rfl,_,rfl,_,_,rfl,rfl,b0,_,_,_,rfl,rfl,?_,hch,_,_,rfl,rfl,?_,?_⟩
   ·show abc.length<=sizeLine
    rw [zey]; decide
   ·rw [zdD]
    exact big (by omega)
   refine ⟨_,rfl,_,rfl,_,_,rfl,rfl,⟨b0,by omega⟩,?_⟩
   refine ⟨rfl,_,_,_,rfl,by rw [len_app,hl,zdD],?_⟩
   rw [app_list,List.all_append,ha]
   show (true && [ch].all small)=true
   simp [hs]
  ·rintro σ H2 ⟨rfl,y,r,x4,rfl,hl,ha⟩
   rw [List.length_map,List.length_range] at hl
   exact ⟨_,rfl,q y (zfH (by omega) (by omega) ha)⟩
noncomputable def sp_spare (K:W.Frag):Sp:=fun vs H Q _=>∃ (x:Str) (u:Addr) (us:List Str),vs = [.str x,.ref u]/\isName x=true/\SqL K H u (us.map V.str)/\us.length<=25/\∀ y H',Same H H'->isName y=true->y ∉ us->Q (.str y) H'
noncomputable def notUsed (us:List Str) (v:V):Bool:=match v with
 | .str y => !decide (y∈us)
 | _=>false
theorem zeJ:FnScope ["_law_word_here","_law_used"] ["_law_word_here","_law_used"] (defScope s_spare):=⟨rfl,rfl,rfl,by decide +kernel,rfl,by decide +kernel,by decide +kernel⟩
theorem ok_spare (D:DefAt K mg "_law_spare" s_spare) (T:Bn mg):Callee P w K mg base "_law_spare" 1 ["_law_word_here","_law_used"] (sp_spare K):=by
 refine D.callee zeJ (fun _ _ _ _ _ _=>ln2 fun _ _=>rfl) (fun vs H Q E h => ?_) (fun f cdv A outer s H vs Q E hr h => ?_)
 ·obtain ⟨x,u,us,rfl,_⟩:=h
  rfl
 ·obtain ⟨x,u,us,rfl,hx,hS,hl,q⟩:=h
  have S:=zeJ
  refine ⟨_,zad (zaF (zaq zbJ (pv 0) (pv 1) (by with_unfolding_all rfl))
   (zaf (zal (pv 0)))
   (zan))
  (zaf (zal (zau zaD (za7 (own := ["_law_one"]) (caps := [(1,"_law_used")]) rfl ⟨rfl,rfl,rfl,rfl,⟨⟨rfl,rfl,.inl rfl⟩,trivial⟩⟩ (zgc (zaR)) (fun _ _ _ _ _ _=>zas (i:=0) (za3 (by decide +kernel)) rfl (Or.inl rfl)) (fun _ _ _ _ _ _=>zdw (zaq (op_notIn_seq' K rfl) (pv 0) (pv 1) (by with_unfolding_all rfl))) (fun _ _ _ _ _ _=>pv 0)) (zab) (fun _ _=>rfl)))),?_⟩
  refine ⟨_,rfl,_,rfl,_,_,rfl,.inl hS,rfl,zea us,_,rfl,?_⟩
  rw [if_pos rfl,zfM]
  refine ite2 (fun hc => ?_) (fun hc => ?_)
  ·have h0:x ∉ us:=by simpa using hc
   exact ⟨_,rfl,q x H (Same.refl H) hx h0⟩
  ·refine ⟨_,rfl,fun D hD => ?_⟩
   refine zdn (capv := [some (.ref u)]) (L:=abc.cps.toList.map sgn) (by rfl) (zd8 abc) (by rw [List.length_map,zcl,zey]; decide) hD ?_ (notUsed us) (fun v=>v) ?_ ?_ ?_
   ·exact fun _ _=>trivial
   ·intro v hv H' R s' h
    obtain ⟨c,hc,rfl⟩:=List.mem_map.mp hv
    refine ⟨_,rfl,_,rfl,_,_,rfl,.inl (s'.seq hS),rfl,zea us,_,rfl,?_⟩
    rw [if_pos rfl]
    show R (!inV (V.str ⟨#[c]⟩) (us.map V.str)) H'
    rw [zfM]
    exact h H' (Same.refl _)
   ·intro v hv hp H' R s' h
    exact ⟨_,rfl,h H' (Same.refl _)⟩
   ·intro H' s' e
    obtain ⟨c,hc,hn⟩:=spare_some us hl
    have hm:sgn c∈((abc.cps.toList.map sgn).filter (notUsed us)).map fun v=>v:=by
     rw [List.map_id']
     exact List.mem_filter.mpr ⟨List.mem_map.mpr ⟨c,hc,rfl⟩,by show (!decide ((⟨#[c]⟩:Str)∈us))=true; simp [hn]⟩
    have hall:∀ v∈((abc.cps.toList.map sgn).filter (notUsed us)).map fun v=>v,∃ d,v=sgn d/\small d=true/\(⟨#[d]⟩:Str) ∉ us:=fun v hv=>by
     rw [List.map_id'] at hv
     obtain ⟨h1,h2⟩:=List.mem_filter.mp hv
     obtain ⟨d,hd,rfl⟩:=List.mem_map.mp h1
     have h2:(!decide ((⟨#[d]⟩:Str)∈us))=true:=h2
     exact ⟨d,rfl,abc_small hd,by simpa using h2⟩
    generalize (((abc.cps.toList.map sgn).filter (notUsed us)).map fun v=>v)=l at e hm hall
    cases l with
    | nil=>cases hm
    | cons v l =>
     obtain ⟨d,rfl,hs,hd⟩:=hall v List.mem_cons_self
     exact ⟨_,_,_,_,rfl,rfl,SqL.of e,(show atI (sgn d :: l) ((0:Nat):Int)=some (sgn d) from zaH rfl),q _ H' s' (name_one hs) hd⟩
noncomputable def Rows (H:Hp):List V->List (List Int)->Prop
 | [],[]=>True
 | v :: vs,r :: rs=>(∃ p,v = .ref p/\H p=some (.tup (r.map V.int)))/\Rows H vs rs
 | _,_=>False
theorem Rows.same {H H':Hp} (s:Same H H'):∀ {vs:List V} {rs:List (List Int)},Rows H vs rs->Rows H' vs rs
 | [],[],_=>trivial
 | _ :: _,_ :: _,⟨⟨p,e,h⟩,r⟩=>⟨⟨p,e,s _ _ h⟩,Rows.same s r⟩
 | [],_ :: _,h=>h.elim
 | _ :: _,[],h=>h.elim
theorem Rows.snoc {H:Hp} {p:Addr} {r:List Int} (h:H p=some (.tup (r.map V.int))):∀ {vs:List V} {rs:List (List Int)},Rows H vs rs->Rows H (vs ++ [.ref p]) (rs ++ [r])
 | [],[],_=>⟨⟨p,rfl,h⟩,trivial⟩
 | _ :: _,_ :: _,⟨a,b⟩=>⟨a,Rows.snoc h b⟩
 | [],_ :: _,x=>x.elim
 | _ :: _,[],x=>x.elim
theorem Rows.get {H:Hp}:∀ {vs:List V} {rs:List (List Int)} {i:Nat} {r:List Int},Rows H vs rs->rs[i]?=some r->∃ p,vs[i]?=some (.ref p)/\H p=some (.tup (r.map V.int))
 | [],[],_,_,_,e=>by simp at e
 | _ :: _,_ :: _,0,_,⟨⟨p,e,h⟩,_⟩,z=>by
  simp at z
  subst z
  exact ⟨p,by rw [e]; rfl,h⟩
 | _ :: _,_ :: _,i + 1,_,⟨_,b⟩,z=>Rows.get (i:=i) b (by simpa using z)
 | [],_ :: _,_,_,x,_=>x.elim
 | _ :: _,[],_,_,x,_=>x.elim
structure Mr (H0 H:Hp) (vs:List V) (rs:List (List Int)):Prop where
 same:Same H0 H
 rows:Rows H vs rs
theorem Mr.add {H0 H:Hp} {vs:List V} {rs:List (List Int)} (m:Mr H0 H vs rs) (r:List Int) {p:Addr} (n:H p=none):Mr H0 (upd H p (.tup (r.map V.int))) (vs ++ [.ref p]) (rs ++ [r]) :=
 ⟨m.same.put (m.same.free n),Rows.snoc zac (m.rows.same (Same.new n))⟩
theorem Mr.lstE {H0 H:Hp} {vs:List V} {rs:List (List Int)} (m:Mr H0 H vs rs) {o:HO} {p:Addr} (n:H p=none):Mr H0 (upd H p o) vs rs/\upd H p o p=some o:=⟨⟨m.same.put (m.same.free n),m.rows.same (Same.new n)⟩,zac⟩
theorem Mr.lst {H0 H:Hp} {vs:List V} {rs:List (List Int)} (m:Mr H0 H vs rs) {o:HO} {p:Addr} (n:H p=none):Mr H0 (upd H p o) vs rs:=⟨m.same.put (m.same.free n),m.rows.same (Same.new n)⟩
noncomputable def menuRows:List (List Int) := [[45],[131,133],[193,65],[71,161,99],[77,131,133],[13,49],[153,111,131],[197,131,173,53],[83,125,137,173,243],[185,193,215,87,243],[5],[175,209,67,129,21,229,49,83],[203,243,129,167,153,223,207,243],[197,147,131],[197,131,177],[31,255],[3,3],[119,225,131,109]]
noncomputable def MenuRow (xs:List Int):Prop:=(1<=xs.length/\xs.length<=8)/\∀ x∈xs,x % 2=1/\0<=x/\x < 256
theorem menu_ok {i:Nat} {r:List Int} (h:menuRows[i]?=some r):MenuRow r:=by
 have all:∀ r∈menuRows,(1<=r.length/\r.length<=8)/\∀ x∈r,x % 2=1/\0<=x/\x < 256:=by decide
 exact all r (List.mem_of_getElem? h)
noncomputable def sp_menu:Sp:=fun vs H Q _=>∃ (k:Int),vs = [.int k]/\∀ p xs H',Same H H'->H' p=some (.tup (xs.map V.int))->MenuRow xs->Q (.ref p) H'
theorem zfq:FnScope ["_law_k","_law_rows"] ["_law_k"] (defScope s_menu):=⟨rfl,rfl,rfl,by decide +kernel,rfl,by decide +kernel,by decide +kernel⟩
theorem ok_menu (D:DefAt K mg "_law_menu" s_menu) (T:Bn mg):Callee P w K mg base "_law_menu" 1 ["_law_k"] sp_menu:=by
 refine D.calleeQ zfq (fun _ _ _ _ _ _=>ln1 fun _=>rfl) (fun vs H Q E h => ?_) (fun f cdv A outer s H vs Q E hr h => ?_)
 ·obtain ⟨k,rfl,_⟩:=h
  rfl
 ·obtain ⟨k,rfl,q⟩:=h
  have S:=zfq
  refine ⟨_,za4 (zcb (i:=1) S.nd rfl (Or.inl rfl) (zcO (zag (za0 (zag (qe (zab)) (zaI))) (zag (za0 (zag (qe (zab)) (zag (qe (zab)) (zaI)))) (zag (za0 (zag (qe (zab)) (zag (qe (zab)) (zaI)))) (zag (za0 (zag (qe (zab)) (zag (qe (zab)) (zag (qe (zab)) (zaI))))) (zag (za0 (zag (qe (zab)) (zag (qe (zab)) (zag (qe (zab)) (zaI))))) (zag (za0 (zag (qe (zab)) (zag (qe (zab)) (zaI)))) (zag (za0 (zag (qe (zab)) (zag (qe (zab)) (zag (qe (zab)) (zaI))))) (zaI))))))))))
  (za4 (zcb (i:=1) S.nd rfl (Or.inl rfl) (zgu zeX (qe (pv 1)) (zcO (zag (za0 (zag (qe (zab)) (zag (qe (zab)) (zag (qe (zab)) (zag (qe (zab)) (zaI)))))) (zag (za0 (zag (qe (zab)) (zag (qe (zab)) (zag (qe (zab)) (zag (qe (zab)) (zag (qe (zab)) (zaI))))))) (zag (za0 (zag (qe (zab)) (zag (qe (zab)) (zag (qe (zab)) (zag (qe (zab)) (zag (qe (zab)) (zaI))))))) (zag (za0 (zag (qe (zab)) (zaI))) (zaI))))))))
  (za4 (zcb (i:=1) S.nd rfl (Or.inl rfl) (zgu zeX (qe (pv 1)) (zcO (zag (za0 (zag (qe (zab)) (zag (qe (zab)) (zag (qe (zab)) (zag (qe (zab)) (zag (qe (zab)) (zag (qe (zab)) (zag (qe (zab)) (zag (qe (zab)) (zaI)))))))))) (zag (za0 (zag (qe (zab)) (zag (qe (zab)) (zag (qe (zab)) (zag (qe (zab)) (zag (qe (zab)) (zag (qe (zab)) (zag (qe (zab)) (zag (qe (zab)) (zaI)))))))))) (zaI))))))
  (za4 (zcb (i:=1) S.nd rfl (Or.inl rfl) (zgu zeX (qe (pv 1)) (zcO (zag (za0 (zag (qe (zab)) (zag (qe (zab)) (zag (qe (zab)) (zaI))))) (zag (za0 (zag (qe (zab)) (zag (qe (zab)) (zag (qe (zab)) (zaI))))) (zag (za0 (zag (qe (zab)) (zag (qe (zab)) (zaI)))) (zag (za0 (zag (qe (zab)) (zag (qe (zab)) (zaI)))) (zag (za0 (zag (qe (zab)) (zag (qe (zab)) (zag (qe (zab)) (zag (qe (zab)) (zaI)))))) (zaI)))))))))
  (zfv (zgb (qe (zau zaD (pv 1) (zaA zbB (pv 0) (zak zao rfl T.n_len PySem.boot_len (zaa (pv 1) zae))) (fun _ _=>rfl)))))))),?_⟩
  have M:Mr H H [] []:=⟨Same.refl H,trivial⟩
  refine ⟨bigr rfl,fun a1 na => ?_⟩
  replace M:=M.add [45] na
  clear na
  refine ⟨bigr rfl,fun a2 na => ?_⟩
  replace M:=M.add [131,133] na
  clear na
  refine ⟨bigr rfl,fun a3 na => ?_⟩
  replace M:=M.add [193,65] na
  clear na
  refine ⟨bigr rfl,fun a4 na => ?_⟩
  replace M:=M.add [71,161,99] na
  clear na
  refine ⟨bigr rfl,fun a5 na => ?_⟩
  replace M:=M.add [77,131,133] na
  clear na
  refine ⟨bigr rfl,fun a6 na => ?_⟩
  replace M:=M.add [13,49] na
  clear na
  refine ⟨bigr rfl,fun a7 na => ?_⟩
  replace M:=M.add [153,111,131] na
  clear na
  refine ⟨bigr rfl,fun b0 nb => ?_⟩
  obtain ⟨M,e⟩:=M.lstE (o := .lst [V.ref a1,V.ref a2,V.ref a3,V.ref a4,V.ref a5,V.ref a6,V.ref a7]) nb
  clear nb
  refine ⟨_,rfl,?_⟩
  refine ⟨bigr rfl,fun a8 na => ?_⟩
  replace M:=M.add [197,131,173,53] na
  replace e:=zch (o := .tup (([197,131,173,53]:List Int).map V.int)) e na
  clear na
  refine ⟨bigr rfl,fun a9 na => ?_⟩
  replace M:=M.add [83,125,137,173,243] na
  replace e:=zch (o := .tup (([83,125,137,173,243]:List Int).map V.int)) e na
  clear na
  refine ⟨bigr rfl,fun a10 na => ?_⟩
  replace M:=M.add [185,193,215,87,243] na
  replace e:=zch (o := .tup (([185,193,215,87,243]:List Int).map V.int)) e na
  clear na
  refine ⟨bigr rfl,fun a11 na => ?_⟩
  replace M:=M.add [5] na
  replace e:=zch (o := .tup (([5]:List Int).map V.int)) e na
  clear na
  refine ⟨bigr rfl,fun b1 nb => ?_⟩
  obtain ⟨M,e2⟩:=M.lstE (o := .lst [V.ref a8,V.ref a9,V.ref a10,V.ref a11]) nb
  replace e:=zch (o := .lst [V.ref a8,V.ref a9,V.ref a10,V.ref a11]) e nb
  clear nb
  refine ⟨_,_,_,_,rfl,rfl,e,e2,bigr rfl,fun c1 nc => ?_⟩
  obtain ⟨M,e⟩:=M.lstE (o := .lst [V.ref a1,V.ref a2,V.ref a3,V.ref a4,V.ref a5,V.ref a6,V.ref a7,V.ref a8,V.ref a9,V.ref a10,V.ref a11]) nc
  clear nc e2
  refine ⟨_,rfl,?_⟩
  refine ⟨bigr rfl,fun a12 na => ?_⟩
  replace M:=M.add [175,209,67,129,21,229,49,83] na
  replace e:=zch (o := .tup (([175,209,67,129,21,229,49,83]:List Int).map V.int)) e na
  clear na
  refine ⟨bigr rfl,fun a13 na => ?_⟩
  replace M:=M.add [203,243,129,167,153,223,207,243] na
  replace e:=zch (o := .tup (([203,243,129,167,153,223,207,243]:List Int).map V.int)) e na
  clear na
  refine ⟨bigr rfl,fun b2 nb => ?_⟩
  obtain ⟨M,e2⟩:=M.lstE (o := .lst [V.ref a12,V.ref a13]) nb
  replace e:=zch (o := .lst [V.ref a12,V.ref a13]) e nb
  clear nb
  refine ⟨_,_,_,_,rfl,rfl,e,e2,bigr rfl,fun c2 nc => ?_⟩
  obtain ⟨M,e⟩:=M.lstE (o := .lst [V.ref a1,V.ref a2,V.ref a3,V.ref a4,V.ref a5,V.ref a6,V.ref a7,V.ref a8,V.ref a9,V.ref a10,V.ref a11,V.ref a12,V.ref a13]) nc
  clear nc e2
  refine ⟨_,rfl,?_⟩
  refine ⟨bigr rfl,fun a14 na => ?_⟩
  replace M:=M.add [197,147,131] na
  replace e:=zch (o := .tup (([197,147,131]:List Int).map V.int)) e na
  clear na
  refine ⟨bigr rfl,fun a15 na => ?_⟩
  replace M:=M.add [197,131,177] na
  replace e:=zch (o := .tup (([197,131,177]:List Int).map V.int)) e na
  clear na
  refine ⟨bigr rfl,fun a16 na => ?_⟩
  replace M:=M.add [31,255] na
  replace e:=zch (o := .tup (([31,255]:List Int).map V.int)) e na
  clear na
  refine ⟨bigr rfl,fun a17 na => ?_⟩
  replace M:=M.add [3,3] na
  replace e:=zch (o := .tup (([3,3]:List Int).map V.int)) e na
  clear na
  refine ⟨bigr rfl,fun a18 na => ?_⟩
  replace M:=M.add [119,225,131,109] na
  replace e:=zch (o := .tup (([119,225,131,109]:List Int).map V.int)) e na
  clear na
  refine ⟨bigr rfl,fun b3 nb => ?_⟩
  obtain ⟨M,e2⟩:=M.lstE (o := .lst [V.ref a14,V.ref a15,V.ref a16,V.ref a17,V.ref a18]) nb
  replace e:=zch (o := .lst [V.ref a14,V.ref a15,V.ref a16,V.ref a17,V.ref a18]) e nb
  clear nb
  refine ⟨_,_,_,_,rfl,rfl,e,e2,bigr rfl,fun c3 nc => ?_⟩
  obtain ⟨M,e⟩:=M.lstE (o := .lst [V.ref a1,V.ref a2,V.ref a3,V.ref a4,V.ref a5,V.ref a6,V.ref a7,V.ref a8,V.ref a9,V.ref a10,V.ref a11,V.ref a12,V.ref a13,V.ref a14,V.ref a15,V.ref a16,V.ref a17,V.ref a18]) nc
  clear nc e2
  have p18:(0:Int) < 18:=by decide
  have k0:=Int.emod_nonneg k (show (18:Int)≠0 by decide)
  have k1:=Int.emod_lt_of_pos k p18
  have hi:(k % 18).toNat < menuRows.length:=by
   show (k % 18).toNat < 18
   omega
  obtain ⟨p,hp,ht⟩:=Rows.get (rs:=menuRows) M.rows (List.getElem?_eq_getElem hi)
  have ek:(((k % 18).toNat:Nat):Int)=k % 18:=by omega
  refine ⟨_,rfl,_,rfl,_,rfl,_,_,rfl,.inl (SqL.of e),_,_,rfl,rfl,p18,_,_,_,_,rfl,rfl,SqL.of e,?_,q p _ _ M.same ht (menu_ok (List.getElem?_eq_getElem hi))⟩
  show atI _ (k % 18)=_
  rw [<- ek]
  exact zaH hp
theorem p3:(0:Int) < 3:=by decide
theorem p14:(0:Int) < 14:=by decide
theorem p42:(0:Int) < 42:=by decide
theorem zgv:(0:Int) < 128:=by decide
noncomputable def manyL:List Int := [2,3,1,2,4,3,1,5,2,0,8,7,6,1]
theorem manyL_at {k:Int} (h0:0<=k) (h1:k < 14):∃ m:Int,atI (manyL.map V.int) k=some (V.int m)/\0<=m/\m<=8:=by
 refine ⟨_,zgt h0 (by show k < 14; exact h1),?_⟩
 have all:∀ x∈manyL,0<=x/\x<=8:=by decide
 refine all _ ?_
 have hk:k.toNat < manyL.length:=by show k.toNat < 14; omega
 rw [List.getD_eq_getElem?_getD,List.getElem?_eq_getElem hk]
 exact List.getElem_mem hk
theorem base_at {k:Int} (h0:0<=k) (h1:k < 2):∃ b:Int,atI [V.int 26,V.int 2] k=some (V.int b)/\(b=26\/b=2):=by
 rcases (by omega:k=0\/k=1) with h | h <;> subst h
 ·exact ⟨26,rfl,.inl rfl⟩
 ·exact ⟨2,rfl,.inr rfl⟩
noncomputable def bitOf (b:Int) (v:V):Bool:=match v with
 | .int t=>decide (Builtin.bitAnd (b / 2 ^ t.toNat) 1=1)
 | _=>false
noncomputable def sp_combs (K:W.Frag):Sp:=fun vs H Q _=>∃ (a:Addr) (ns:List Int),vs = [.ref a]/\SqL K H a (ns.map V.int)/\∀ p ks vs H',Same H H'->H p=none->H' p=some (.lst vs)->Drawn (fun _=>True) H' vs ks->ks.length<=8->Q (.ref p) H'
theorem zeM:FnScope ["_law_script","_law_head","_law_menu_here","_law_many","_law_found","_law_used","_law_k","_law_cell","_law_bits","_law_word_here"] ["_law_script"] (defScope s_combs):=⟨rfl,rfl,rfl,by decide +kernel,rfl,by decide +kernel,by decide +kernel⟩
theorem ok_combs (D:DefAt K mg "_law_combs" s_combs) (T:Bn mg) (C_at:Callee P w K mg base "_law_at" 1 ["_law_script","_law_k"] (sp_at K)) (C_mixed:Callee P w K mg base "_law_mixed" 1 ["_law_cell","_law_k"] sp_mixed) (C_word:Callee P w K mg base "_law_word" 1 ["_law_cell","_law_base"] sp_word)
  (C_spare:Callee P w K mg base "_law_spare" 1 ["_law_word_here","_law_used"] (sp_spare K)) (C_menu:Callee P w K mg base "_law_menu" 1 ["_law_k"] sp_menu):Callee P w K mg base "_law_combs" 2 ["_law_script"] (sp_combs K):=by
 refine D.calleeQ zeM (fun _ _ _ _ _ _=>ln1 fun _=>rfl) (fun vs H Q E h => ?_) (fun f cdv A outer s H vs Q E hr h => ?_)
 ·obtain ⟨a,ns,rfl,_⟩:=h
  rfl
 ·obtain ⟨a,ns,rfl,hS,q⟩:=h
  have S:=zeM
  refine ⟨_,za4 (zcb (i:=1) S.nd rfl (Or.inl rfl) (qe (zaK C_at (hr.mono (by decide)) rfl (zaa (pv 0) (zaa (zab) zae)))))
  (za4 (zcb (i:=2) S.nd rfl (Or.inl rfl) (qe (zaK C_menu (hr.mono (by decide)) rfl (zaa (zaK C_at (hr.mono (by decide)) rfl (zaa (pv 0) (zaa (zab) zae))) zae))))
  (za4 (zcb (i:=3) S.nd rfl (Or.inl rfl) (qe_ix zaD (zcO (zag (qe (zab)) (zag (qe (zab)) (zag (qe (zab)) (zag (qe (zab)) (zag (qe (zab)) (zag (qe (zab)) (zag (qe (zab)) (zag (qe (zab)) (zag (qe (zab)) (zag (qe (zab)) (zag (qe (zab)) (zag (qe (zab)) (zag (qe (zab)) (zag (qe (zab)) (zaI)))))))))))))))) (qe (zaA zbB (zaA zbT (pv 1) (zab)) (zab))) (fun _ _=>rfl)))
  (qss_cut (qs (zaF (zaq zcB (zaA zbB (pv 1) (zab)) (zab) (zat _))
   (zaf (zap (i:=3) S.nd rfl (Or.inl rfl) (zak zao rfl T.n_len PySem.boot_len (zaa (pv 2) zae))))
   (zan)))
  (za4 (zcb (i:=4) S.nd rfl (Or.inl rfl) (zcO (zaI)))
  (za4 (zcb (i:=5) S.nd rfl (Or.inl rfl) (zcO (zaI)))
  (za4 (qs (zbi PassesOwn.never rfl (zbF rfl T.n_range (zaa (pv 3) zae)) (zas (i:=6) S.nd rfl (Or.inl rfl))
   (zad (zap (i:=7) S.nd rfl (Or.inl rfl) (zaK C_at (hr.mono (by decide)) rfl (zaa (pv 0) (zaa (zaA zbR (zab) (pv 6)) zae))))
   (zdx (zaF (zaq zgx (zaA zbB (pv 1) (zab)) (zab) (zat _))
    (zaf (zap (i:=7) S.nd rfl (Or.inl rfl) (zaK C_mixed (hr.mono (by decide)) rfl (zaa (pv 7) (zaa (pv 6) zae)))))
    (zan))
   (zad (zap (i:=8) S.nd rfl (Or.inr rfl) (zaA zbR (zaA zdZ (zaA zbB (pv 7) (zab)) (zab)) (zab)))
   (zdx (zaF (zaq zcB (zaA zbB (pv 1) (zab)) (zab) (zat _))
    (zaf (zap (i:=8) S.nd rfl (Or.inr rfl) (zau zaB (pv 2) (pv 6) (fun _ _=>rfl))))
    (zan))
   (zad (zap (i:=9) S.nd rfl (Or.inl rfl) (zaK C_spare (hr.mono (by decide)) rfl (zaa (zaK C_word (hr.mono (by decide)) rfl (zaa (zaA zbT (pv 7) (zab)) (zaa (zau zaD (zaP (zaa (zab) (zaa (zab) zae))) (zaA zbB (zaA zbT (pv 1) (zab)) (zab)) (fun _ _=>rfl)) zae))) (zaa (pv 5) zae))))
   (zad (za6 (zc5 PySem.F.plainAttrs_list PySem.F.slot_list_append PySem.F.type_list_append zaM (pv 5) (zaa (pv 9) zae)))
   (zaf (za6 (zc5 PySem.F.plainAttrs_list PySem.F.slot_list_append PySem.F.type_list_append zaM (pv 4) (zaa (zaP (zaa (pv 9) (zaa (za7 (own := ["_law_t"]) (caps := [(8,"_law_bits")]) rfl ⟨rfl,rfl,rfl,rfl,⟨⟨rfl,rfl,.inl rfl⟩,trivial⟩⟩ (zbF rfl T.n_range (zaa (zab) zae)) (fun _ _ _ _ _ _=>zas (i:=0) (za3 (by decide +kernel)) rfl (Or.inl rfl)) (fun _ _ _ _ _ _=>zdw (zaq zcB (zaA zge (zaA op_shr (pv 1) (pv 0)) (zab)) (zab) (zat _))) (fun _ _ _ _ _ _=>pv 0)) zae))) zae))))))))))))
  (zfv (zgb (qe (pv 4)))))))))),?_⟩
  refine ⟨_,rfl,a,ns,0,rfl,hS,by decide,?_⟩
  generalize ns.getD (Int.toNat 0) 0=head
  refine ⟨_,rfl,a,ns,1,rfl,hS,by decide,_,rfl,fun pm xs H1 s1 em hm => ?_⟩
  obtain ⟨m,hma,hm0,hm8⟩:=manyL_at (k:=head / 3 % 14) (Int.emod_nonneg _ (by decide)) (Int.emod_lt_of_pos _ p14)
  refine ⟨bigr rfl,fun b nb=>⟨_,rfl,_,_,rfl,rfl,⟨p3,by decide⟩,_,_,rfl,rfl,p14,_,_,_,_,rfl,rfl,SqL.of zac,hma,?_⟩⟩
  have s2:Same H (upd H1 b (.lst (manyL.map V.int))):=s1.put (s1.free nb)
  have em2:upd H1 b (.lst (manyL.map V.int)) pm=some (.tup (xs.map V.int)):=by rw [zah (zai em nb)]; exact em
  refine ⟨fun σ H'=>Same H H'/\H' pm=some (.tup (xs.map V.int))/\∃ m:Int,σ = [some (.ref a),some (.int head),some (.ref pm),some (.int m),none,none,none,none,none,none]/\0<=m/\m<=8/\(head % 3=2->m=xs.length),?_,?_⟩
  ·refine ⟨_,rfl,_,_,rfl,rfl,p3,rfl,_,rfl,?_⟩
   refine ite2 (fun hc => ?_) (fun hc => ?_)
   ·refine ⟨_,rfl,_,_,rfl,.inr (SqT.of em2),?_⟩
    rw [List.length_map]
    exact ⟨s2,em2,_,rfl,by omega,by have:=hm.1.2; omega,fun _=>rfl⟩
   ·have hc:¬ head % 3=2:=by simpa using hc
    exact ⟨s2,em2,_,rfl,hm0,hm8,fun z=>absurd z hc⟩
  clear s2 em2 hma hm0 hm8 nb b m s1 em H1
  rintro σ H1 ⟨s1,em,m,rfl,hm0,hm8,hm2⟩
  refine ⟨bigr rfl,fun pf nf => ?_⟩
  refine ⟨bigr rfl,fun pu nu => ?_⟩
  have nfu:pf≠pu:=fun z=>by rw [<- z,zac] at nu; cases nu
  have fH:H pf=none:=s1.free nf
  have s2:=(s1.put (o := .lst []) fH)
  have uH:H pu=none:=s2.free nu
  have s3:=s2.put (o := .lst []) uH
  have em3:upd (upd H1 pf (.lst [])) pu (.lst []) pm=some (.tup (xs.map V.int)):=by
   rw [zah (zai (by rw [zah (zai em nf)]; exact em) nu),zah (zai em nf)]; exact em
  refine ⟨_,rfl,_,rfl,by omega,by omega,?_⟩
  refine zcr (zbd 0 m.toNat) (fun i σ H'=>Same H H'/\H' pm=some (.tup (xs.map V.int))/\∃ (vs:List V) (ks:List (Str×List Int)) (x6 x7 x8 x9:Option V),σ = [some (.ref a),some (.int head),some (.ref pm),some (.int m),some (.ref pf),some (.ref pu),x6,x7,x8,x9] /\
   H' pf=some (.lst vs)/\H' pu=some (.lst ((ks.map (·.1)).map V.str))/\Drawn (fun x=>x≠pf/\x≠pu) H' vs ks/\ks.length=i) ⟨s3,em3,[],[],_,_,_,_,rfl,by rw [zah nfu,zac],by rw [zac]; rfl,⟨trivial,List.nodup_nil,by simp⟩,rfl⟩ (fun _ _ _ _ _=>trivial) ?_ ?_
  ·rintro i x σ H2 hx ⟨s2,em2,vs,ks,x6,x7,x8,x9,rfl,ef,eu,dr,hl⟩
   obtain ⟨hi,rfl⟩:=zca hx
   have hi8:i < 8:=by omega
   have hS2:=s2.seq hS
   refine ⟨_,rfl,_,rfl,_,_,rfl,rfl,a,ns,_,rfl,hS2,?_,?_⟩
   ·show (0:Int)<=1 + (0 + ((i:Nat):Int))
    omega
   generalize ns.getD (1 + (0 + ((i:Nat):Int))).toNat 0=cell0
   refine ⟨fun σ H'=>H'=H2/\∃ (c:Int),σ = [some (.ref a),some (.int head),some (.ref pm),some (.int m),some (.ref pf),some (.ref pu),some (.int (0 + ((i:Nat):Int))),some (.int c),x8,x9],?_,?_⟩
   ·refine ⟨_,rfl,_,_,rfl,rfl,p3,_,_,rfl,rfl,_,rfl,?_⟩
    refine ite2 (fun _ => ?_) (fun _ => ?_)
    ·exact ⟨_,rfl,_,rfl,_,_,rfl,rfl,_,rfl⟩
    ·exact ⟨rfl,_,rfl⟩
   rintro σ H3 ⟨rfl,c,rfl⟩
   have c0:=Int.emod_nonneg c (show (128:Int)≠0 by decide)
   have c1:=Int.emod_lt_of_pos c zgv
   refine ⟨_,rfl,_,_,rfl,rfl,zgv,_,_,rfl,rfl,.inr ⟨by decide,by decide⟩,_,_,rfl,rfl,?_⟩
   refine ⟨fun σ H'=>H'=H3/\∃ (bt:Int),σ = [some (.ref a),some (.int head),some (.ref pm),some (.int m),some (.ref pf),some (.ref pu),some (.int (0 + ((i:Nat):Int))),some (.int c),some (.int bt),x9]/\bt % 2=1/\0<=bt,?_,?_⟩
   ·refine ⟨_,rfl,_,_,rfl,rfl,p3,rfl,_,rfl,?_⟩
    refine ite2 (fun hc => ?_) (fun hc => ?_)
    ·have hc:head % 3=2:=by simpa using hc
     have hix:i < xs.length:=by have:=hm2 hc; omega
     have hat:atI (xs.map V.int) (0 + ((i:Nat):Int))=some (V.int xs[i]):=by
      rw [Int.zero_add]
      refine zaH ?_
      rw [List.getElem?_map,List.getElem?_eq_getElem hix]
      rfl
     have:=hm.2 xs[i] (List.getElem_mem hix)
     exact ⟨_,rfl,_,rfl,_,_,_,_,rfl,rfl,SqT.of em2,hat,rfl,_,rfl,this.1,this.2.1⟩
    ·exact ⟨rfl,_,rfl,by omega,by omega⟩
   rintro σ H4 ⟨rfl,bt,rfl,hb1,hb0⟩
   obtain ⟨bs,hbs,hb2⟩:=base_at (k:=head / 42 % 2) (Int.emod_nonneg _ (by decide)) (Int.emod_lt_of_pos _ p2)
   refine ⟨_,rfl,_,_,rfl,rfl,⟨zgv,by decide⟩,bigr rfl,fun b nb=>⟨_,rfl,_,_,rfl,rfl,⟨p42,by decide⟩,_,_,rfl,rfl,p2,_,_,_,_,rfl,rfl,SqL.of zac,hbs,_,_,rfl,hb2,fun y hy => ?_⟩⟩
   have s4:=s2.put (o := .lst [V.int 26,V.int 2]) (s2.free nb)
   have t4:Same H4 (upd H4 b (.lst [V.int 26,V.int 2])):=Same.new nb
   have eu4:=t4 _ _ eu
   refine ⟨_,rfl,y,pu,ks.map (·.1),rfl,hy,SqL.of eu4,by rw [List.length_map]; omega,fun z H5 s5 hz hzn => ?_⟩
   have s5H:=s4.trans s5
   have t5:=t4.trans s5
   have eu5:=t5 _ _ eu
   have ef5:=t5 _ _ ef
   have em5:=t5 _ _ em2
   have dr5:=dr.same t5
   refine ⟨_,rfl,.inl ⟨rfl,_,SqL.of eu5⟩,_,rfl,_,_,_,rfl,rfl,eu5,?_,?_⟩
   ·rw [List.length_map,List.length_map]
    exact Nat.lt_of_lt_of_le (by omega:ks.length < 1000) zaQ
   have s6:=s5H.put (o := .lst ((ks.map (·.1)).map V.str ++ [V.str z])) uH
   have dr6:Drawn (fun x=>x≠pf/\x≠pu) (upd H5 pu (.lst ((ks.map (·.1)).map V.str ++ [V.str z]))) vs ks:=dr5.upd fun z=>z.2 rfl
   have em6:upd H5 pu (.lst ((ks.map (·.1)).map V.str ++ [V.str z])) pm=some (.tup (xs.map V.int)):=by
    rw [zah (fun w=>by rw [w,eu5] at em5; cases em5)]; exact em5
   have ef6:upd H5 pu (.lst ((ks.map (·.1)).map V.str ++ [V.str z])) pf=some (.lst vs):=by rw [zah nfu]; exact ef5
   have eu6:upd H5 pu (.lst ((ks.map (·.1)).map V.str ++ [V.str z])) pu=some (.lst ((ks.map (·.1)).map V.str ++ [V.str z])):=zac
   generalize upd H5 pu (.lst ((ks.map (·.1)).map V.str ++ [V.str z]))=H6 at s6 dr6 em6 ef6 eu6
   refine ⟨_,rfl,.inl ⟨rfl,_,SqL.of ef6⟩,_,rfl,_,rfl,by decide,by decide,fun Dc hD => ?_⟩
   refine zdn (capv := [some (.int bt)]) (by rfl) (zbd 0 (8:Int).toNat) (bigr rfl) hD ?_ (bitOf bt) (fun v=>v) ?_ ?_ ?_
   ·exact fun _ _=>trivial
   ·intro v hv H' R s' h
    obtain ⟨t,ht,rfl⟩:=List.mem_map.mp hv
    refine ⟨_,rfl,_,rfl,_,_,rfl,rfl,?_,_,_,rfl,rfl,rfl,_,rfl,?_⟩
    ·show (0:Int)<=0 + ((t:Nat):Int)
     omega
    rw [dec_ii]
    exact h H' (Same.refl _)
   ·intro v hv hp H' R s' h
    exact ⟨_,rfl,h H' (Same.refl _)⟩
   intro H7 s7 e7
   have ets:(((((List.range (8:Int).toNat).map fun i=>V.int (0 + ((i:Nat):Int))).filter (bitOf bt)).map fun v=>v))=(((List.range 8).filter fun i=>bitOf bt (.int (0 + ((i:Nat):Int)))).map fun i=>((i:Nat):Int)).map V.int:=by
    rw [List.map_id',List.filter_map,List.map_map]
    show List.map _ (List.filter _ (List.range 8))=_
    congr 1
    funext i
    show V.int (0 + ((i:Nat):Int))=V.int ((i:Nat):Int)
    rw [Int.zero_add]
   have gt:GT (((List.range 8).filter fun i=>bitOf bt (.int (0 + ((i:Nat):Int)))).map fun i=>((i:Nat):Int)):=by
    refine ⟨_,rfl,?_⟩
    show decide (Builtin.bitAnd (bt / 2 ^ (0 + ((0:Nat):Int)).toNat) 1=1)=true
    rw [bitAnd_m1]
    apply decide_eq_true
    show bt / 1 % 2=1
    rw [Int.ediv_one]
    exact hb1
   rw [ets] at e7
   generalize (((List.range 8).filter fun i=>bitOf bt (.int (0 + ((i:Nat):Int)))).map fun i=>((i:Nat):Int))=ts at e7 gt
   refine ⟨bigr rfl,fun q' nq => ?_⟩
   have t7:Same H6 H7:=s7
   have n7:∀ {x o},H6 x=some o->x≠Dc:=fun e z=>by rw [z,hD] at e; cases e
   have n8:∀ {x o},H7 x=some o->x≠q':=fun e z=>by rw [z,nq] at e; cases e
   have ef8:upd H7 q' (.lst [V.str z,V.ref Dc]) pf=some (.lst vs):=by rw [zah (n8 (t7 _ _ ef6))]; exact t7 _ _ ef6
   refine ⟨_,_,_,rfl,rfl,ef8,?_,?_⟩
   ·rw [dr6.rows.length]
    exact Nat.lt_of_lt_of_le (by omega:ks.length < 1000) zaQ
   have s8:=((s6.trans s7).put (o := .lst [V.str z,V.ref Dc]) ((s6.trans s7).free nq)).put (o := .lst (vs ++ [V.ref q'])) fH
   have fq:q'≠pf:=(n8 (t7 _ _ ef6)).symm
   have uq:q'≠pu:=(n8 (t7 _ _ eu6)).symm
   refine ⟨s8,?_,vs ++ [.ref q'],ks ++ [(z,ts)],_,_,_,_,rfl,zac,?_,?_,by rw [List.length_append,hl]; rfl⟩
   ·have fm:pm≠pf:=fun w=>by rw [w,ef6] at em6; cases em6
    rw [zah fm,zah (n8 (t7 _ _ em6))]
    exact t7 _ _ em6
   ·rw [zah nfu.symm,zah (n8 (t7 _ _ eu6)),t7 _ _ eu6,List.map_append,List.map_append]
    rfl
   ·refine Drawn.snoc (q:=q') (t:=Dc) (((dr6.same t7).same (Same.new nq)).upd fun w=>w.1 rfl) ?_ ?_ ⟨fq,uq⟩ ⟨(n7 ef6).symm,(n7 eu6).symm⟩ hzn ⟨hz,gt⟩
    ·rw [zah fq,zac]
    ·rw [zah (n7 ef6).symm,zah (n8 e7)]
     exact e7
  ·rintro σ H2 ⟨s2,em2,vs,ks,x6,x7,x8,x9,rfl,ef,eu,dr,hl⟩
   rw [List.length_map,List.length_range] at hl
   exact ⟨_,rfl,q pf ks vs H2 s2 fH ef dr.any (by omega)⟩
theorem zgi {a b:Nat}:([a] < [b]) ↔ a < b:=by
 rw [List.cons_lt_cons_iff]
 simp
theorem le_a (c:Nat):(!decide ((⟨#[c]⟩:Str).cps.toList < (Str.ofString "a").cps.toList))=decide (97<=c):=by
 have e:(Str.ofString "a").cps.toList = [97]:=by decide +kernel
 rw [e]
 show (!decide ([c] < [97]))=_
 rw [Bool.eq_iff_iff]
 simp only [Bool.not_eq_true',decide_eq_false_iff_not,decide_eq_true_eq,zgi]
 omega
theorem le_z (c:Nat):(!decide ((Str.ofString "z").cps.toList < (⟨#[c]⟩:Str).cps.toList))=decide (c<=122):=by
 have e:(Str.ofString "z").cps.toList = [122]:=by decide +kernel
 rw [e]
 show (!decide ([122] < [c]))=_
 rw [Bool.eq_iff_iff]
 simp only [Bool.not_eq_true',decide_eq_false_iff_not,decide_eq_true_eq,zgi]
 omega
noncomputable def sp_small:Sp:=fun vs H Q _=>∃ c:Nat,vs = [sgn c]/\Q (.bl (small c)) H
theorem zbf:FnScope ["sign"] ["sign"] (defScope s_is_small_letter):=⟨rfl,rfl,rfl,by decide +kernel,rfl,by decide +kernel,by decide +kernel⟩
theorem ok_small (D:DefAt K mg "is_small_letter" s_is_small_letter) (T:Bn mg):Callee P w K mg base "is_small_letter" 1 ["sign"] sp_small:=by
 refine D.callee zbf (fun _ _ _ _ _ _=>ln1 fun _=>rfl) (fun vs H Q E h => ?_) (fun f cdv A outer s H vs Q E hr h => ?_)
 ·obtain ⟨c,rfl,_⟩:=h
  rfl
 ·obtain ⟨c,rfl,q⟩:=h
  have S:=zbf
  refine ⟨_,zaf (zal (zeT zd0 zd0 (zaR) (pv 0) (zaR))),?_⟩
  refine ⟨_,rfl,_,_,rfl,rfl,_,rfl,?_⟩
  rw [le_a]
  have q':Q (.bl (decide (97<=c) && decide (c<=122))) H:=q
  cases e:decide (97<=c) with
  | false =>
   rw [if_neg Bool.false_ne_true]
   rw [e] at q'
   exact q'
  | true =>
   rw [if_pos rfl]
   refine ⟨_,_,rfl,rfl,?_⟩
   rw [le_z]
   rw [e] at q'
   exact q'
noncomputable def sp_name:Sp:=fun vs H Q _=>∃ x:Str,vs = [.str x]/\x.length<=sizeLine/\∀ H',Same H H'->Q (.bl (isName x)) H'
theorem zdf:FnScope ["text"] ["text"] (defScope s_is_name):=⟨rfl,rfl,rfl,by decide +kernel,rfl,by decide +kernel,by decide +kernel⟩
theorem ok_name (D:DefAt K mg "is_name" s_is_name) (T:Bn mg) (V_MOST_NAME:∃ t,mg "MOST_NAME" = some (.int 6 t)) (C_is_small_letter:Callee P w K mg base "is_small_letter" 1 ["sign"] sp_small):Callee P w K mg base "is_name" 2 ["text"] sp_name:=by
 refine D.callee zdf (fun _ _ _ _ _ _=>ln1 fun _=>rfl) (fun vs H Q E h => ?_) (fun f cdv A outer s H vs Q E hr h => ?_)
 ·obtain ⟨c,rfl,_⟩:=h
  rfl
 ·obtain ⟨x,rfl,hx,q⟩:=h
  have S:=zdf
  refine ⟨_,zad (zaF (zbm (zeQ zfd zfd (zab) (zak call_len_str rfl T.n_len PySem.boot_len (zaa (pv 0) zae)) (zco rfl V_MOST_NAME)))
   (zaf (zal (zbO)))
   (zan))
  (zaf (zal (zak (zfb rfl) rfl T.n_all boot_all (zaa (za7 (own := ["sign"]) (caps := []) rfl ⟨rfl,rfl,rfl,rfl,trivial⟩ (zgc (pv 0)) (fun _ _ _ _ _ _=>zas (i:=0) (za3 (by decide +kernel)) rfl (Or.inl rfl)) (fun _ _ _ _ _ _=>zbE) (fun _ _ _ _ _ _=>zaK C_is_small_letter (hr.mono (by decide)) rfl (zaa (pv 0) zae))) zae)))),?_⟩
  have fin:∀ H',Same H H'->(decide (1<=x.length) && decide (x.length<=6))=false->Q (.bl false) H':=fun H' s' e=>by
   have:=q H' s'
   unfold isName at this
   rw [e] at this
   exact this
  refine ⟨_,rfl,_,rfl,hx,_,_,rfl,rfl,_,rfl,?_⟩
  refine ite2 (fun h1 => ?_) (fun h1 => ?_)
  ·refine ⟨_,_,rfl,rfl,_,rfl,?_⟩
   refine ite2 (fun h2 => ?_) (fun h2 => ?_)
   ·refine fin H (Same.refl H) ?_
    have:¬ (x.length:Int)<=6:=by simpa using h2
    rw [Bool.and_eq_false_iff]
    exact .inr (decide_eq_false (by omega))
   ·refine ⟨_,rfl,_,rfl,fun D hD => ?_⟩
    refine zdn (capv := []) (L:=x.cps.toList.map sgn) (by rfl) (zd8 x) (by rw [List.length_map,zcl]; exact hx) hD ?_ (fun _=>true) (fun v=>match v with | .str y => .bl (small (y.cps.getD 0 0)) | _ => .non) ?_ ?_ ?_
    ·exact fun _ _=>trivial
    ·exact fun v hv H' R s' h=>h H' (Same.refl _)
    ·intro v hv _ H' R s' h
     obtain ⟨c,hc,rfl⟩:=List.mem_map.mp hv
     exact ⟨_,rfl,c,rfl,h H' (Same.refl _)⟩
    ·intro H' s' e
     refine ⟨_,x.cps.toList.map small,rfl,?_,?_⟩
     ·refine SqL.of ?_
      rw [e]
      congr 2
      rw [List.filter_eq_self.mpr (fun _ _=>rfl),List.map_map,List.map_map]
      rfl
     ·have:=q H' s'
      unfold isName at this
      have h3:¬ ¬ (x.length:Int)<=6:=by simpa using h2
      have h1':(1:Int)<=x.length:=by simpa using h1
      rw [decide_eq_true (show 1<=x.length by omega),decide_eq_true (show x.length<=6 by omega)] at this
      rw [List.all_map]
      exact this
  ·refine ⟨_,rfl,?_⟩
   refine fin H (Same.refl H) ?_
   have h1':¬ (1:Int)<=x.length:=by simpa using h1
   rw [Bool.and_eq_false_iff]
   exact .inl (decide_eq_false (by omega))
noncomputable def sp_teeth (K:W.Frag):Sp:=fun vs H Q _=>∃ (a:Addr) (ts:List Int),vs = [.ref a]/\SqL K H a (ts.map V.int)/\ts.length<=1000/\∀ H',Same H H'->Q (.bl (areTeeth ts)) H'
theorem zcx:FnScope ["teeth"] ["teeth"] (defScope s_are_teeth):=⟨rfl,rfl,rfl,by decide +kernel,rfl,by decide +kernel,by decide +kernel⟩
theorem ok_teeth (D:DefAt K mg "are_teeth" s_are_teeth) (T:Bn mg) (V_MOST_TOOTH:∃ t,mg "MOST_TOOTH" = some (.int 7 t)):Callee P w K mg base "are_teeth" 1 ["teeth"] (sp_teeth K):=by
 refine D.callee zcx (fun _ _ _ _ _ _=>ln1 fun _=>rfl) (fun vs H Q E h => ?_) (fun f cdv A outer s H vs Q E hr h => ?_)
 ·obtain ⟨a,ts,rfl,_⟩:=h
  rfl
 ·obtain ⟨a,ts,rfl,ha,hl,q⟩:=h
  have S:=zcx
  unfold areTeeth at q
  refine ⟨_,zad (zaF (zaq zbJ (zab) (pv 0) (by with_unfolding_all rfl))
   (zaf (zal (zbO)))
   (zan))
  (zad (zaF (zaq zeo (zak call_lenS rfl T.n_len PySem.boot_len (zaa (zaZ (call_set1 rfl) rfl T.n_set boot_set (zaa (pv 0) zae)) zae)) (zak zao rfl T.n_len PySem.boot_len (zaa (pv 0) zae)) (zat _))
   (zaf (zal (zbO)))
   (zan))
  (zaf (zal (zak (zfb rfl) rfl T.n_all boot_all (zaa (za7 (own := ["tooth"]) (caps := []) rfl ⟨rfl,rfl,rfl,rfl,trivial⟩ (zaJ (pv 0)) (fun _ _ _ _ _ _=>zas (i:=0) (za3 (by decide +kernel)) rfl (Or.inl rfl)) (fun _ _ _ _ _ _=>zbE) (fun _ _ _ _ _ _=>zeT zfd zfd (zab) (pv 0) (zco rfl V_MOST_TOOTH))) zae))))),?_⟩
  refine ⟨_,rfl,_,_,rfl,.inl ha,rfl,zf8 ts,_,rfl,?_⟩
  rw [if_pos rfl,in_zero]
  refine ite2 (fun hc => ?_) (fun hc => ?_)
  ·have h0:decide (0∈ts)=false:=by simpa using hc
   rw [h0] at q
   exact q H (Same.refl H)
  ·have h0:decide (0∈ts)=true:=by simpa using hc
   rw [h0,Bool.true_and] at q
   refine ⟨_,rfl,_,ts,rfl,ha,?_,fun p np => ?_⟩
   ·show ts.length + 1 < 4096
    omega
   have s1:Same H (upd H p (.set (fun k=>(firstMet (fun i=>ts.getD i 0) ts.length).any (· == k)) (many ts))):=Same.new np
   refine ⟨_,_,_,rfl,zac,_,rfl,_,_,rfl,.inl (s1.seq ha),rfl,_,rfl,?_⟩
   rw [List.length_map]
   refine ite2 (fun hm => ?_) (fun hm => ?_)
   ·have h1:¬ many ts=ts.length:=fun z=>by simp [z] at hm
    rw [decide_eq_false h1,Bool.false_and] at q
    exact q _ s1
   ·have h1:many ts=ts.length:=by
     have:(many ts:Int)=(ts.length:Int):=by simpa using hm
     omega
    rw [decide_eq_true h1,Bool.true_and] at q
    refine ⟨_,rfl,_,rfl,⟨_,s1.seq ha⟩,fun D hD => ?_⟩
    refine zdn (capv := []) (L:=ts.map V.int) (by rfl) (zar K a (ts.map V.int)) (by rw [List.length_map]; exact big hl) hD ?_ (fun _=>true) (fun v=>match v with | .int t => .bl (inR t) | _ => .non) ?_ ?_ ?_
    ·exact fun H' s'=>(s1.trans s').seq ha
    ·exact fun v hv H' R s' h=>h H' (Same.refl _)
    ·intro v hv _ H' R s' h
     obtain ⟨t,ht,rfl⟩:=List.mem_map.mp hv
     have h:=h H' (Same.refl _)
     have h:R (.bl (decide (0<=t) && decide (t<=7))) H':=h
     refine ⟨_,rfl,_,_,rfl,rfl,_,rfl,?_⟩
     cases e:decide (0<=t) with
     | false =>
      rw [e] at h
      exact iteF h
     | true =>
      rw [e] at h
      exact iteT ⟨_,_,rfl,rfl,h⟩
    ·intro H' s' e
     refine ⟨_,ts.map inR,rfl,?_,?_⟩
     ·refine SqL.of ?_
      rw [e]
      congr 2
      rw [List.filter_eq_self.mpr (fun _ _=>rfl),List.map_map,List.map_map]
      rfl
     ·have:=q H' (s1.trans s')
      rw [List.all_map]
      exact this
theorem zbt {d l:V}:([("combs",d),("past",l)]:List (Str×V)).lookup (Str.ofString "combs")=some d:=rfl
theorem zdC {d l:V}:([("combs",d),("past",l)]:List (Str×V)).lookup (Str.ofString "past")=some l:=rfl
theorem putF_combs {y d l:V}:putF (Str.ofString "combs") y [("combs",d),("past",l)] = [(Str.ofString "combs",y),(Str.ofString "past",l)]:=by
 unfold putF
 rw [if_pos rfl]
theorem putF_new {y:V}:putF (Str.ofString "combs") y [] = [(Str.ofString "combs",y)]:=rfl
theorem putF_past {y d:V}:putF (Str.ofString "past") y [("combs",d)] = [(Str.ofString "combs",d),(Str.ofString "past",y)]:=by
 have h:¬ (Str.ofString "combs" = Str.ofString "past"):=by decide +kernel
 unfold putF
 rw [if_neg h]
 rfl
theorem two_len {a b:Str×V} : [a,b].length < 1000:=show 2 < 1000 by decide
noncomputable def sp_check (ea:Nat->Addr) (C:Addr):Sp:=fun vs H Q E=>∃ b l G cs past x,vs = [.ref b,.str x]/\Bk C G H b l cs past/\(if (cGet cs x).isSome=true then Q .non H else E (.ref (ea 4)) none H)
theorem zbg:FnScope ["self","name"] ["self","name"] (defScope s_Book_check_comb):=⟨rfl,rfl,rfl,by decide +kernel,rfl,by decide +kernel,by decide +kernel⟩
theorem ok_check {ea:Nat->Addr} {C:Addr} (D:MethAt K C "Book" "check_comb" s_Book_check_comb) (T:Bn mg) (BA:BookAt K C) (O_NoComb:Err K mg "NoComb" (ea 4)):Method P w K mg base C "check_comb" (CX1 P w) 1 ["self","name"] (sp_check ea C):=by
 refine D.meth1 zbg (fun _ _ _ _ _ _=>ln2 fun _ _=>rfl) (fun vs H Q E h => ?_) (fun f cdv A outer s H vs Q E hr h => ?_)
 ·obtain ⟨b,l,G,cs,past,x,rfl,_⟩:=h
  rfl
 ·obtain ⟨b,l,G,cs,past,x,rfl,B,q⟩:=h
  have S:=zbg
  have hu:=zci hr
  obtain ⟨dx,d,hb,gd,kvs,hd,kr⟩:=B.ins
  refine ⟨_,zaf (zaF (zdX (zcd hu (pv 1) (zbG (pv 0) rfl)))
   (zaf (zbs O_NoComb rfl (zaa (zaR) zae)))
   (zan)),?_⟩
  refine ⟨_,rfl,_,rfl,_,_,_,_,_,rfl,hb,BA.cls,BA.nc,zbt,d,_,rfl,DGet.k (k:=Sum.inr x) hd,_,rfl,?_⟩
  rw [kr.some]
  cases e:(cGet cs x).isSome with
  | false =>
   rw [e] at q
   exact iteT ⟨bigr rfl,q⟩
  | true =>
   rw [e] at q
   exact iteF q
noncomputable def sp_do (ea:Nat->Addr) (C:Addr):Sp:=fun vs H Q E=>∃ b l G cs past d D cs',vs = [.ref b,.ref d]/\Bk C G H b l cs past/\DictR D H d cs'/\Good cs'/\(∀ x,D x->x≠b/\x≠l/\H x≠none) /\
 (if 300<=past.length then E (.ref (ea 9)) none H else ∀ H',(∀ a,a≠b->a≠l->H' a=H a)->Bk C (fun a=>G a\/D a) H' b l cs' (past ++ [cs])->Q (.int ((past.length:Int) + 1)) H')
theorem zbD:FnScope ["self","combs"] ["self","combs"] (defScope s_Book_do_deed):=⟨rfl,rfl,rfl,by decide +kernel,rfl,by decide +kernel,by decide +kernel⟩
theorem ok_do {ea:Nat->Addr} {C:Addr} (D:MethAt K C "Book" "do_deed" s_Book_do_deed) (T:Bn mg) (BA:BookAt K C) (V_MOST_DEEDS:∃ t,mg "MOST_DEEDS" = some (.int 300 t)) (O_DeedsFull:Err K mg "DeedsFull" (ea 9)):Method P w K mg base C "do_deed" (CX1 P w) 1 ["self","combs"] (sp_do ea C):=by
 refine D.meth1 zbD (fun _ _ _ _ _ _=>ln2 fun _ _=>rfl) (fun vs H Q E h => ?_) (fun f cdv A outer s H vs Q E hr h => ?_)
 ·obtain ⟨b,l,G,cs,past,d,D,cs',rfl,_⟩:=h
  rfl
 ·obtain ⟨b,l,G,cs,past,d1,Dd,cs',rfl,B,dr,gd',nD,q⟩:=h
  have S:=zbD
  have hu:=zci hr
  obtain ⟨dx,d,hb,dr0⟩:=B.ins
  obtain ⟨vs,hl,pr⟩:=B.lst
  have hlen:=pr.length
  have hbl:b≠l:=zgB hb hl (by intro z; cases z)
  refine ⟨_,zad (zaF (zaq zf6 (zak zao rfl T.n_len PySem.boot_len (zaa (zbG (pv 0) rfl) zae)) (zco rfl V_MOST_DEEDS) (zat _))
   (zaf (zbs O_DeedsFull rfl (zaa (zaR) zae)))
   (zan))
  (zad (za6 (zc5 PySem.F.plainAttrs_list PySem.F.slot_list_append PySem.F.type_list_append zaM (zbG (pv 0) rfl) (zaa (zbG (pv 0) rfl) zae)))
  (zad (zfx (pv 0) (pv 1) rfl)
  (zaf (zal (zak zao rfl T.n_len PySem.boot_len (zaa (zbG (pv 0) rfl) zae)))))),?_⟩
  refine ⟨_,rfl,_,_,_,_,_,rfl,hb,BA.cls,BA.np,zdC,_,_,rfl,.inl (SqL.of hl),_,_,rfl,rfl,_,rfl,?_⟩
  refine ite2 (fun hc => ?_) (fun hc => ?_)
  ·have h300:300<=past.length:=by
    have:(300:Int)<=(vs.length:Int):=by simpa using hc
    omega
   rw [if_pos h300] at q
   exact ⟨bigr rfl,q⟩
  ·have h300:¬ 300<=past.length:=by
    have:¬ (300:Int)<=(vs.length:Int):=by simpa using hc
    omega
   rw [if_neg h300] at q
   refine ⟨_,rfl,_,_,_,_,_,rfl,hb,BA.cls,BA.np,zdC,.inl ⟨rfl,_,SqL.of hl⟩,_,rfl,_,_,_,_,_,rfl,hb,BA.cls,BA.nc,zbt,_,_,_,rfl,rfl,hl,?_,?_⟩
   ·exact Nat.lt_of_lt_of_le (by omega:vs.length < 1000) zaQ
   have hb1:upd H l (.lst (vs ++ [.ref d])) b=some (.ins C dx [("combs",.ref d),("past",.ref l)]):=by rw [zah hbl]; exact hb
   refine ⟨_,rfl,_,rfl,_,_,_,_,rfl,hb1,BA.cls,BA.nc,two_len,?_⟩
   rw [putF_combs]
   have hb2:upd (upd H l (.lst (vs ++ [.ref d]))) b (.ins C dx [("combs",.ref d1),("past",.ref l)]) b=some (.ins C dx [("combs",.ref d1),("past",.ref l)]):=zac
   have hl2:upd (upd H l (.lst (vs ++ [.ref d]))) b (.ins C dx [("combs",.ref d1),("past",.ref l)]) l=some (.lst (vs ++ [.ref d])):=by rw [zah (Ne.symm hbl),zac]
   have off:∀ a,a≠b->a≠l->upd (upd H l (.lst (vs ++ [.ref d]))) b (.ins C dx [("combs",.ref d1),("past",.ref l)]) a=H a:=fun a n1 n2=>by rw [zah n1,zah n2]
   generalize upd (upd H l (.lst (vs ++ [.ref d]))) b (.ins C dx [("combs",.ref d1),("past",.ref l)])=H2 at hb2 hl2 off
   refine ⟨_,rfl,_,_,_,_,_,rfl,hb2,BA.cls,BA.np,zdC,_,_,rfl,.inl (SqL.of hl2),?_⟩
   rw [List.length_append,List.length_singleton,hlen]
   have sG:∀ a o,G a->H a=some o->H2 a=some o:=fun a o g e=>(off a (fun z=>B.nb (z ▸ g)) (fun z=>B.nl (z ▸ g))).trans e
   have sD:∀ a o,Dd a->H a=some o->H2 a=some o:=fun a o g e=>(off a (nD a g).1 (nD a g).2.1).trans e
   refine q H2 off ⟨?_,?_,?_,⟨dx,d1,hb2,dr.mono sD fun _ g => .inr g⟩,⟨_,hl2,?_⟩,gd',?_,?_⟩
   ·rintro x (g | g)
    ·rw [off x (fun z=>B.nb (z ▸ g)) (fun z=>B.nl (z ▸ g))]; exact B.live x g
    ·rw [off x (nD x g).1 (nD x g).2.1]; exact (nD x g).2.2
   ·rintro (g | g)
    ·exact B.nb g
    ·exact (nD b g).1 rfl
   ·rintro (g | g)
    ·exact B.nl g
    ·exact (nD l g).2.1 rfl
   ·exact Paired.snoc (Paired.mono (fun _ _ ⟨d,e,r⟩=>⟨d,e,r.mono sG fun _ g => .inl g⟩) pr) ⟨d,rfl,dr0.mono sG fun _ g => .inl g⟩
   ·intro p hp
    rcases List.mem_append.mp hp with z | z
    ·exact B.goods p z
    ·rw [List.mem_singleton.mp z]; exact B.good
   ·rw [List.length_append,List.length_singleton]; omega
noncomputable def sp_deeds (C:Addr):Sp:=fun vs H Q _=>∃ b l G cs past,vs = [.ref b]/\Bk C G H b l cs past/\Q (.int (past.length:Int)) H
theorem zb9:FnScope ["self"] ["self"] (defScope s_Book_deeds):=⟨rfl,rfl,rfl,by decide +kernel,rfl,by decide +kernel,by decide +kernel⟩
theorem ok_deeds {C:Addr} (D:MethAt K C "Book" "deeds" s_Book_deeds) (T:Bn mg) (BA:BookAt K C):Method P w K mg base C "deeds" CX0 1 ["self"] (sp_deeds C):=by
 refine D.meth0 zb9 (fun _ _ _ _ _ _=>ln1 fun _=>rfl) (fun vs H Q E h => ?_) (fun f cdv A outer s H vs Q E hr h => ?_)
 ·obtain ⟨b,l,G,cs,past,rfl,_⟩:=h
  rfl
 ·obtain ⟨b,l,G,cs,past,rfl,B,q⟩:=h
  have S:=zb9
  obtain ⟨dx,d,hb,dr0⟩:=B.ins
  obtain ⟨vs,hl,pr⟩:=B.lst
  refine ⟨_,zaf (zal (zak zao rfl T.n_len PySem.boot_len (zaa (zbG (pv 0) rfl) zae))),?_⟩
  refine ⟨_,rfl,_,_,_,_,_,rfl,hb,BA.cls,BA.np,zdC,_,_,rfl,.inl (SqL.of hl),?_⟩
  rw [pr.length]
  exact q
noncomputable def sp_names (C:Addr):Sp:=fun vs H Q _=>∃ b l G cs past,vs = [.ref b]/\Bk C G H b l cs past/\∀ p (nm:List Str),H p=none->nm.Perm (cs.map (·.1))->sortedS nm=true->Q (.ref p) (upd H p (.lst (nm.map V.str)))
theorem zb8:FnScope ["self"] ["self"] (defScope s_Book_names):=⟨rfl,rfl,rfl,by decide +kernel,rfl,by decide +kernel,by decide +kernel⟩
theorem ok_names {C:Addr} (D:MethAt K C "Book" "names" s_Book_names) (T:Bn mg) (BA:BookAt K C):Method P w K mg base C "names" CX0 1 ["self"] (sp_names C):=by
 refine D.meth0 zb8 (fun _ _ _ _ _ _=>ln1 fun _=>rfl) (fun vs H Q E h => ?_) (fun f cdv A outer s H vs Q E hr h => ?_)
 ·obtain ⟨b,l,G,cs,past,rfl,_⟩:=h
  rfl
 ·obtain ⟨b,l,G,cs,past,rfl,B,q⟩:=h
  have S:=zb8
  obtain ⟨dx,d,hb,gd,kvs,hd,kr⟩:=B.ins
  refine ⟨_,zaf (zal (zak (call_sortedD rfl) rfl T.n_sorted boot_sorted (zaa (zbG (pv 0) rfl) zae))),?_⟩
  refine ⟨_,rfl,_,_,_,_,_,rfl,hb,BA.cls,BA.nc,zbt,d,kvs,cs.map (·.1),rfl,.inl hd,kr.keys,?_,q⟩
  rw [List.length_map]
  have:=B.good.len
  omega
noncomputable def sp_bteeth (ea:Nat->Addr) (C:Addr):Sp:=fun vs H Q E=>∃ b l G cs past x,vs = [.ref b,.str x]/\Bk C G H b l cs past/\(match cGet cs x with | some ts=>∀ p,H p=none->Q (.ref p) (upd H p (.lst (ts.map V.int))) | none=>E (.ref (ea 4)) none H)
theorem zb7:FnScope ["self","name"] ["self","name"] (defScope s_Book_teeth):=⟨rfl,rfl,rfl,by decide +kernel,rfl,by decide +kernel,by decide +kernel⟩
theorem ok_bteeth {ea:Nat->Addr} {C:Addr} (D:MethAt K C "Book" "teeth" s_Book_teeth) (T:Bn mg) (BA:BookAt K C) (M_check_comb:Method P w K mg base C "check_comb" (CX1 P w) 1 ["self","name"] (sp_check ea C)):Method P w K mg base C "teeth" (CX1 P w) 2 ["self","name"] (sp_bteeth ea C):=by
 refine D.meth1 zb7 (fun _ _ _ _ _ _=>ln2 fun _ _=>rfl) (fun vs H Q E h => ?_) (fun f cdv A outer s H vs Q E hr h => ?_)
 ·obtain ⟨b,l,G,cs,past,x,rfl,_⟩:=h
  rfl
 ·obtain ⟨b,l,G,cs,past,x,rfl,B,q⟩:=h
  have S:=zb7
  have hu:=zci hr
  have B_cls:=BA.cls
  obtain ⟨dx,d,hb,gd,kvs,hd,kr⟩:=id B.ins
  refine ⟨_,zad (za6 (zfB (pv 0) B_cls M_check_comb (hr.mono (by decide)) (by first | exact zdY | exact pass_try | exact zc6 | exact zbk) (zaa (pv 1) zae)))
  (zaf (zal (zaZ zbK rfl T.n_list boot_list (zaa (zdB hu (zbG (pv 0) rfl) (pv 1) (fun _ _=>rfl)) zae)))),?_⟩
  refine ⟨_,rfl,_,_,_,rfl,hb,rfl,_,rfl,b,l,G,cs,past,x,rfl,B,?_⟩
  rcases kr.val (x:=x) with ⟨e1,e2⟩ | ⟨ts,t,e1,e2,e3,e4⟩
  ·rw [e1] at q ⊢
   exact q
  ·rw [e1] at q ⊢
   refine iteT ?_
   refine ⟨_,rfl,_,_,_,_,_,rfl,hb,BA.cls,BA.nc,zbt,_,rfl,d,_,rfl,?_,_,_,rfl,.inl (SqL.of e3),q⟩
   rw [<- e2]
   exact DGet.k (k:=Sum.inr x) hd
noncomputable def sp_init (C:Addr):Sp:=fun vs H Q _=>∃ b dx,vs = [.ref b]/\H b=some (.ins C dx [])/\∀ H' l d,Mv b b (fun _=>False) (fun a=>a=d) H H'->H l=none->H d=none->Bk C (fun a=>a=d) H' b l [] []->Q .non H'
theorem zbz:FnScope ["self"] ["self"] (defScope s_Book___init__):=⟨rfl,rfl,rfl,by decide +kernel,rfl,by decide +kernel,by decide +kernel⟩
theorem ok_init {C:Addr} {f:Addr} {fd:FuncData} (F:Fun K "__init__" "Book.__init__" s_Book___init__ f fd) (T:Bn mg) (BA:BookAt K C):FnOk P w K mg base CX0 1 f fd ["self"] (sp_init C):=by
 refine F.ok zbz (fun vs H Q E h => ?_) (fun cdv A outer s H vs Q E hr h => ?_)
 ·obtain ⟨b,dx,rfl,_⟩:=h
  rfl
 ·obtain ⟨b,dx,rfl,hb,q⟩:=h
  have S:=zbz
  refine ⟨_,zad (zfx (pv 0) (zdA) rfl)
  (zaf (zfx (pv 0) (zaP (zae)) rfl)),?_⟩
  refine fun d nd => ?_
  have hbd:b≠d:=zai hb nd
  have hb1:upd H d (.dK []) b=some (.ins C dx []):=by rw [zah hbd]; exact hb
  refine ⟨_,rfl,_,_,_,_,rfl,hb1,BA.cls,BA.nc,by decide,?_⟩
  rw [putF_new]
  refine ⟨bigr rfl,fun l nl => ?_⟩
  have hbl:b≠l:=fun z=>by rw [<- z,zac] at nl; cases nl
  have nl1:upd H d (.dK []) l=none:=by rw [zah (Ne.symm hbl)] at nl; exact nl
  have hdl:d≠l:=fun z=>by rw [<- z,zac] at nl1; cases nl1
  have hln:H l=none:=by rw [zah (Ne.symm hdl)] at nl1; exact nl1
  have hb2:upd (upd (upd H d (.dK [])) b (.ins C dx [(Str.ofString "combs",V.ref d)])) l (.lst []) b=some (.ins C dx [("combs",.ref d)]):=by rw [zah hbl,zac]
  refine ⟨_,rfl,_,_,_,_,rfl,hb2,BA.cls,BA.np,(show 1 < 1000 by decide),?_⟩
  rw [putF_past]
  have hb3:upd (upd (upd (upd H d (.dK [])) b (.ins C dx [(Str.ofString "combs",V.ref d)])) l (.lst [])) b (.ins C dx [(Str.ofString "combs",V.ref d),(Str.ofString "past",V.ref l)]) b=some (.ins C dx [("combs",.ref d),("past",.ref l)]):=zac
  have hd3:upd (upd (upd (upd H d (.dK [])) b (.ins C dx [(Str.ofString "combs",V.ref d)])) l (.lst [])) b (.ins C dx [(Str.ofString "combs",V.ref d),(Str.ofString "past",V.ref l)]) d=some (.dK []):=by
   rw [zah (Ne.symm hbd),zah hdl,zah (Ne.symm hbd),zac]
  have hl3:upd (upd (upd (upd H d (.dK [])) b (.ins C dx [(Str.ofString "combs",V.ref d)])) l (.lst [])) b (.ins C dx [(Str.ofString "combs",V.ref d),(Str.ofString "past",V.ref l)]) l=some (.lst []):=by
   rw [zah (Ne.symm hbl),zac]
  have off:∀ a o,H a=some o->a≠b->upd (upd (upd (upd H d (.dK [])) b (.ins C dx [(Str.ofString "combs",V.ref d)])) l (.lst [])) b (.ins C dx [(Str.ofString "combs",V.ref d),(Str.ofString "past",V.ref l)]) a=some o:=fun a o e n=>by
   rw [zah n,zah (zai e hln),zah n,zah (zai e nd)]; exact e
  generalize upd (upd (upd (upd H d (.dK [])) b (.ins C dx [(Str.ofString "combs",V.ref d)])) l (.lst [])) b (.ins C dx [(Str.ofString "combs",V.ref d),(Str.ofString "past",V.ref l)])=H3 at hb3 hd3 hl3 off
  refine q H3 l d ⟨fun a o e n _=>off a o e n,fun a h => ?_,fun a g => .inr (by rw [g]; exact nd)⟩ hln nd ⟨fun x g => ?_,hbd,fun z=>hdl z.symm,⟨dx,d,hb3,rfl,[],hd3,.nil⟩,⟨[],hl3,.nil⟩,good_nil,by simp,by decide⟩
  ·by_cases z:a=b
   ·rw [z,hb3]; simp
   ·cases e:H a with
    | none=>exact absurd e h
    | some o=>rw [off a o e z]; simp
  ·rw [show x=d from g,hd3]; simp
noncomputable def sp_set (ea:Nat->Addr) (C:Addr):Sp:=fun vs H Q E=>∃ b l G cs past x a ts,vs = [.ref b,.str x,.ref a]/\Bk C G H b l cs past/\SqL K H a (ts.map V.int)/\areTeeth ts=true/\isName x=true/\(cs.length < 8\/(cGet cs x).isSome=true)/\Deed ea C G H b l cs past Q E (full past (cPut cs x (canon ts)))
theorem zby:FnScope ["self","name","teeth","combs"] ["self","name","teeth"] (defScope s_Book_set_comb):=⟨rfl,rfl,rfl,by decide +kernel,rfl,by decide +kernel,by decide +kernel⟩
theorem ok_set {ea:Nat->Addr} {C:Addr} (D:MethAt K C "Book" "set_comb" s_Book_set_comb) (T:Bn mg) (BA:BookAt K C) (M_do_deed:Method P w K mg base C "do_deed" (CX1 P w) 1 ["self","combs"] (sp_do ea C)):Method P w K mg base C "set_comb" (CX1 P w) 2 ["self","name","teeth"] (sp_set (K:=K) ea C):=by
 refine D.meth1 zby (fun _ _ _ _ _ _=>ln3 fun _ _ _=>rfl) (fun vs H Q E h => ?_) (fun f cdv A outer s H vs Q E hr h => ?_)
 ·obtain ⟨b,l,G,cs,past,x,a,ts,rfl,_⟩:=h
  rfl
 ·obtain ⟨b,l,G,cs,past,x,a,ts,rfl,B,ha,ht,hx,hn,q⟩:=h
  have S:=zby
  have hu:=zci hr
  have B_cls:=BA.cls
  obtain ⟨t0,tn,tr⟩:=teeth_iff.mp ht
  obtain ⟨dx,d,hb,gd,kvs,hd,kr⟩:=id B.ins
  refine ⟨_,zad (zap (i:=3) S.nd rfl (Or.inl rfl) (zaZ call_dictD rfl T.n_dict boot_dict (zaa (zbG (pv 0) rfl) zae)))
  (zad (zcP hu (pv 3) (pv 1) (zak zcz rfl T.n_sorted boot_sorted (zaa (pv 2) zae)) rfl)
  (zaf (zal (zfB (pv 0) B_cls M_do_deed (hr.mono (by decide)) (by first | exact zdY | exact pass_try | exact zc6 | exact zbk) (zaa (pv 3) zae))))),?_⟩
  refine ⟨_,rfl,_,_,_,_,_,rfl,hb,BA.cls,BA.nc,zbt,d,kvs,rfl,.inl hd,fun p np => ?_⟩
  have s1:Same H (upd H p (.dK kvs)):=Same.new np
  refine ⟨_,rfl,a,ts,rfl,s1.seq ha,?_,fun r ns nr hp hs => ?_⟩
  ·have:=zcJ tn tr
   omega
  have hc:=zdJ hp hs tn tr
  subst hc
  have npr:p≠r:=fun z=>by rw [<- z,zac] at nr; cases nr
  have hr0:H r=none:=s1.free nr
  have s2:Same H (upd (upd H p (.dK kvs)) r (.lst ((canon ts).map V.int))):=s1.put hr0
  have hp2:upd (upd H p (.dK kvs)) r (.lst ((canon ts).map V.int)) p=some (.dK kvs):=by rw [zah npr,zac]
  have hkl:kvs.length < sizeLine:=by
   have:=kr.length
   have:=B.good.len
   exact Nat.lt_of_lt_of_le (by omega:kvs.length < 1000) zaQ
  refine ⟨_,rfl,_,rfl,p,_,rfl,DPut.k (k:=Sum.inr x) hp2 hkl,?_⟩
  have s3:Same H (upd (upd (upd H p (.dK kvs)) r (.lst ((canon ts).map V.int))) p (.dK (putK kvs (Sum.inr x) (.ref r)))):=s2.put np
  have hr3:upd (upd (upd H p (.dK kvs)) r (.lst ((canon ts).map V.int))) p (.dK (putK kvs (Sum.inr x) (.ref r))) r=some (.lst ((canon ts).map V.int)):=by rw [zah (Ne.symm npr),zac]
  have hp3:upd (upd (upd H p (.dK kvs)) r (.lst ((canon ts).map V.int))) p (.dK (putK kvs (Sum.inr x) (.ref r))) p=some (.dK (putK kvs (Sum.inr x) (.ref r))):=zac
  generalize upd (upd (upd H p (.dK kvs)) r (.lst ((canon ts).map V.int))) p (.dK (putK kvs (Sum.inr x) (.ref r)))=H3 at s3 hr3 hp3
  have B3:=B.same s3
  obtain ⟨lb,ll⟩:=B.liveB
  refine ⟨_,rfl,b,dx,_,rfl,s3 _ _ hb,rfl,_,rfl,b,l,G,cs,past,p,fun a=>G a\/a=p\/a=r,cPut cs x (canon ts),rfl,B3,⟨.inr (.inl rfl),_,hp3,?_⟩,B.good.put hx (gt_canon t0) hn,?_,?_⟩
  ·exact (kr.mono (fun a o _ e=>s3 a o e) fun _ g => .inl g).put hr3 (.inr (.inr rfl))
  ·rintro y (g | g | g)
   ·exact ⟨fun z=>B.nb (z ▸ g),fun z=>B.nl (z ▸ g),B3.live y g⟩
   ·subst g
    exact ⟨fun z=>lb (z ▸ np),fun z=>ll (z ▸ np),by rw [hp3]; simp⟩
   ·subst g
    exact ⟨fun z=>lb (z ▸ hr0),fun z=>ll (z ▸ hr0),by rw [hr3]; simp⟩
  ·unfold full at q
   by_cases h3:300<=past.length
   ·rw [if_pos h3] at q ⊢
    exact q H3 s3
   ·rw [if_neg h3] at q ⊢
    intro H4 off B4
    refine q H4 _ ⟨fun a o e n1 n2=>(off a n1 n2).trans (s3 a o e),fun a h => ?_,fun a g => ?_⟩ B4
    ·obtain ⟨lb4,ll4⟩:=B4.liveB
     by_cases z:a=b
     ·rw [z]; exact lb4
     ·by_cases z2:a=l
      ·rw [z2]; exact ll4
      ·rw [off a z z2]; exact zd3 s3 a h
    ·rcases g with g | g | g | g
     ·exact .inl g
     ·exact .inl g
     ·rw [g]; exact .inr np
     ·rw [g]; exact .inr hr0
noncomputable def sp_put (ea:Nat->Addr) (C:Addr):Sp:=fun vs H Q E=>∃ b l G cs past x a ts,vs = [.ref b,.str x,.ref a]/\Bk C G H b l cs past/\SqL K H a (ts.map V.int)/\x.length<=sizeLine/\ts.length<=1000/\Deed ea C G H b l cs past Q E (putD cs past x ts)
theorem zcM:FnScope ["self","name","teeth"] ["self","name","teeth"] (defScope s_Book_put):=⟨rfl,rfl,rfl,by decide +kernel,rfl,by decide +kernel,by decide +kernel⟩
theorem ok_put {ea:Nat->Addr} {C:Addr} (D:MethAt K C "Book" "put" s_Book_put) (T:Bn mg) (BA:BookAt K C) (V_MOST_COMBS:∃ t,mg "MOST_COMBS" = some (.int 8 t)) (O_BadName:Err K mg "BadName" (ea 0)) (O_BadTeeth:Err K mg "BadTeeth" (ea 1)) (O_NameTaken:Err K mg "NameTaken" (ea 2)) (O_BookFull:Err K mg "BookFull" (ea 3))
  (C_is_name:Callee P w K mg base "is_name" 2 ["text"] sp_name) (C_are_teeth:Callee P w K mg base "are_teeth" 1 ["teeth"] (sp_teeth K)) (M_set_comb:Method P w K mg base C "set_comb" (CX1 P w) 2 ["self","name","teeth"] (sp_set (K:=K) ea C)):Method P w K mg base C "put" (CX1 P w) 3 ["self","name","teeth"] (sp_put (K:=K) ea C):=by
 refine D.meth1 zcM (fun _ _ _ _ _ _=>ln3 fun _ _ _=>rfl) (fun vs H Q E h => ?_) (fun f cdv A outer s H vs Q E hr h => ?_)
 ·obtain ⟨b,l,G,cs,past,x,a,ts,rfl,_⟩:=h
  rfl
 ·obtain ⟨b,l,G,cs,past,x,a,ts,rfl,B,ha,hxl,htl,q⟩:=h
  have S:=zcM
  have hu:=zci hr
  have B_cls:=BA.cls
  unfold putD at q
  refine ⟨_,zad (zaF (zbm (zbh (zaK C_is_name (hr.mono (by decide)) rfl (zaa (pv 1) zae))))
   (zaf (zbs O_BadName rfl (zaa (zaR) zae)))
   (zan))
  (zad (zaF (zbm (zbh (zaK C_are_teeth (hr.mono (by decide)) rfl (zaa (pv 2) zae))))
   (zaf (zbs O_BadTeeth rfl (zaa (zaR) zae)))
   (zan))
  (zad (zaF (zdX (zgd hu (pv 1) (zbG (pv 0) rfl)))
   (zaf (zbs O_NameTaken rfl (zaa (zaR) zae)))
   (zan))
  (zad (zaF (zaq zf6 (zak zec rfl T.n_len PySem.boot_len (zaa (zbG (pv 0) rfl) zae)) (zco rfl V_MOST_COMBS) (zat _))
   (zaf (zbs O_BookFull rfl (zaa (zaR) zae)))
   (zan))
  (zaf (zal (zfB (pv 0) B_cls M_set_comb (hr.mono (by decide)) (by first | exact zdY | exact pass_try | exact zc6 | exact zbk) (zaa (pv 1) (zaa (pv 2) zae)))))))),?_⟩
  refine ⟨_,rfl,x,rfl,hxl,fun H1 s1=>⟨_,rfl,?_⟩⟩
  cases e1:isName x with
  | false =>
   rw [e1,if_pos rfl] at q
   exact iteT ⟨bigr rfl,q H1 s1⟩
  | true =>
   rw [e1,if_neg (by decide)] at q
   refine iteF ?_
   refine ⟨_,rfl,a,ts,rfl,s1.seq ha,htl,fun H2 s2=>⟨_,rfl,?_⟩⟩
   have s12:=s1.trans s2
   cases e2:areTeeth ts with
   | false =>
    rw [e2,if_pos rfl] at q
    exact iteT ⟨bigr rfl,q H2 s12⟩
   | true =>
    rw [e2,if_neg (by decide)] at q
    refine iteF ?_
    have B2:=B.same s12
    obtain ⟨dx,d,hb,gd,kvs,hd,kr⟩:=id B2.ins
    refine ⟨_,rfl,_,rfl,_,_,_,_,_,rfl,hb,BA.cls,BA.nc,zbt,d,_,rfl,DGet.k (k:=Sum.inr x) hd,_,rfl,?_⟩
    rw [kr.some]
    cases e3:(cGet cs x).isSome with
    | true =>
     rw [e3,if_pos rfl] at q
     exact iteT ⟨bigr rfl,q H2 s12⟩
    | false =>
     rw [e3,if_neg (by decide)] at q
     refine iteF ?_
     refine ⟨_,rfl,_,_,_,_,_,rfl,hb,BA.cls,BA.nc,zbt,_,_,rfl,hd,_,_,rfl,rfl,_,rfl,?_⟩
     rw [kr.length]
     refine ite2 (fun hc => ?_) (fun hc => ?_)
     ·have h8:8<=cs.length:=by
       have:(8:Int)<=(cs.length:Int):=by simpa using hc
       omega
      rw [if_pos h8] at q
      exact ⟨bigr rfl,q H2 s12⟩
     ·have h8:¬ 8<=cs.length:=by
       have:¬ (8:Int)<=(cs.length:Int):=by simpa using hc
       omega
      rw [if_neg h8] at q
      exact ⟨_,rfl,b,dx,_,rfl,hb,rfl,_,rfl,_,rfl,b,l,G,cs,past,x,a,ts,rfl,B2,s12.seq ha,e2,e1,.inl (by omega),q.from s12⟩
noncomputable def worths:List Int := [1,2,4,8,16,32,64,128]
theorem at_worths {t:Int} (h0:0<=t) (h7:t<=7):atI (worths.map V.int) t=some (.int (pw t)):=by
 have:t=0\/t=1\/t=2\/t=3\/t=4\/t=5\/t=6\/t=7:=by omega
 rcases this with h | h | h | h | h | h | h | h <;> subst h <;> rfl
noncomputable def sp_worth (K:W.Frag):Sp:=fun vs H Q _=>∃ (a:Addr) (ts:List Int),vs = [.ref a]/\SqL K H a (ts.map V.int)/\(∀ t∈ts,0<=t/\t<=7)/\ts.length<=1000/\∀ H',Same H H'->Q (.int (worth ts)) H'
theorem zbP:FnScope ["teeth"] ["teeth"] (defScope s_teeth_worth):=⟨rfl,rfl,rfl,by decide +kernel,rfl,by decide +kernel,by decide +kernel⟩
theorem ok_worth {tw:Addr} (D:DefAt K mg "teeth_worth" s_teeth_worth) (T:Bn mg) (G_TOOTH_WORTH:mg "TOOTH_WORTH" = some (.ref tw)) (HTW:∀ H,SqT K H tw (worths.map V.int)):Callee P w K mg base "teeth_worth" 1 ["teeth"] (sp_worth K):=by
 refine D.callee zbP (fun _ _ _ _ _ _=>ln1 fun _=>rfl) (fun vs H Q E h => ?_) (fun f cdv A outer s H vs Q E hr h => ?_)
 ·obtain ⟨a,ts,rfl,_⟩:=h
  rfl
 ·obtain ⟨a,ts,rfl,ha,hr7,hl,q⟩:=h
  have S:=zbP
  refine ⟨_,zaf (zal (zak (call_sum1 rfl) rfl T.n_sum boot_sum (zaa (za7 (own := ["tooth"]) (caps := []) rfl ⟨rfl,rfl,rfl,rfl,trivial⟩ (zaJ (pv 0)) (fun _ _ _ _ _ _=>zas (i:=0) (za3 (by decide +kernel)) rfl (Or.inl rfl)) (fun _ _ _ _ _ _=>zbE) (fun _ _ _ _ _ _=>zau (zer K rfl) (pe_cls rfl G_TOOTH_WORTH) (pv 0) (fun _ _=>rfl))) zae))),?_⟩
  refine ⟨_,rfl,_,rfl,⟨_,ha⟩,fun D hD => ?_⟩
  refine zdn (capv := []) (L:=ts.map V.int) (by rfl) (zar K a (ts.map V.int)) (by rw [List.length_map]; exact big hl) hD ?_ (fun _=>true) (fun v=>match v with | .int t => .int (pw t) | _ => .non) ?_ ?_ ?_
  ·exact fun H' s'=>s'.seq ha
  ·exact fun v hv H' R s' h=>h H' (Same.refl _)
  ·intro v hv _ H' R s' h
   obtain ⟨t,ht,rfl⟩:=List.mem_map.mp hv
   have h:R (.int (pw t)) H':=h H' (Same.refl _)
   obtain ⟨h0,h7⟩:=hr7 t ht
   exact ⟨_,rfl,_,_,_,_,rfl,rfl,HTW H',at_worths h0 h7,h⟩
  ·intro H' s' e
   refine ⟨_,ts.map pw,rfl,?_,q H' s'⟩
   refine SqL.of ?_
   rw [e]
   congr 2
   rw [List.filter_eq_self.mpr (fun _ _=>rfl),List.map_map,List.map_map]
   rfl
noncomputable def sp_steps (ea:Nat->Addr) (C:Addr):Sp:=fun vs H Q E=>∃ b l G cs past n,vs = [.ref b,.int n]/\Bk C G H b l cs past /\
 (if 0<=n/\n < 128 then ∀ p H' ws,Same H H'->H p=none->H' p=some (.lst ws)->(∀ nm:List Str,nm.Perm (cs.map (·.1))->sortedS nm=true->StepsR H' ws (stepsOf (byNames cs nm) n))->Q (.ref p) H' else E (.ref (ea 11)) none H)
theorem zbQ:FnScope ["book","shape","steps","name","worth"] ["book","shape"] (defScope s_shape_steps):=⟨rfl,rfl,rfl,by decide +kernel,rfl,by decide +kernel,by decide +kernel⟩
theorem ok_steps {ea:Nat->Addr} {C:Addr} (D:DefAt K mg "shape_steps" s_shape_steps) (T:Bn mg) (BA:BookAt K C) (V_SHAPES:∃ t,mg "SHAPES" = some (.int 128 t)) (O_BadShape:Err K mg "BadShape" (ea 11)) (C_teeth_worth:Callee P w K mg base "teeth_worth" 1 ["teeth"] (sp_worth K))
  (M_names:Method P w K mg base C "names" CX0 1 ["self"] (sp_names C)) (M_teeth:Method P w K mg base C "teeth" (CX1 P w) 2 ["self","name"] (sp_bteeth ea C)):Callee1 P w K mg base "shape_steps" 3 ["book","shape"] (sp_steps ea C):=by
 refine D.callee1 zbQ (fun _ _ _ _ _ _=>ln2 fun _ _=>rfl) (fun vs H Q E h => ?_) (fun f cdv A outer s H vs Q E hr h => ?_)
 ·obtain ⟨b,l,G,cs,past,n,rfl,_⟩:=h
  rfl
 ·obtain ⟨b,l,G,cs,past,n,rfl,B,q⟩:=h
  have S:=zbQ
  have hu:=zci hr
  have B_cls:=BA.cls
  refine ⟨_,zad (zaF (zbm (zeQ zfd zgw (zab) (pv 1) (zco rfl V_SHAPES)))
   (zaf (zbs O_BadShape rfl (zaa (zaR) zae)))
   (zan))
  (zad (zaF (zaq zcB (zaA zbB (pv 1) (zab)) (zab) (zat _))
   (zaf (zal (zaP (zaa (zbA (zaa (zaR) (zaa (zaA zbT (pv 1) (zab)) zae))) zae))))
   (zan))
  (zad (zap (i:=2) S.nd rfl (Or.inl rfl) (zaP (zae)))
  (zad (zbi PassesOwn.leaving rfl (zaJ (pe_mt0 (pv 0) B_cls M_names (hr.mono (by decide)) (by first | exact zdY | exact pass_try | exact zc6 | exact zbk))) (zas (i:=3) S.nd rfl (Or.inl rfl))
   (zad (zap (i:=4) S.nd rfl (Or.inl rfl) (zaK C_teeth_worth (hr.mono (by decide)) rfl (zaa (zfB (pv 0) B_cls M_teeth (hr.mono (by decide)) (by first | exact zdY | exact pass_try | exact zc6 | exact zbk) (zaa (pv 3) zae)) zae)))
   (zaf (zaF (zaq zcB (zaA zge (pv 1) (pv 4)) (zab) (zat _))
    (zaf (za6 (zc5 PySem.F.plainAttrs_list PySem.F.slot_list_append PySem.F.type_list_append zaM (pv 2) (zaa (zbA (zaa (pv 3) (zaa (zaA zbT (zaA zbR (pv 1) (pv 4)) (zab)) zae))) zae))))
    (zan)))))
  (zaf (zal (pv 2)))))),?_⟩
  refine ⟨_,rfl,_,_,rfl,rfl,_,rfl,?_⟩
  refine ite2 (fun h0 => ?_) (fun h0 => ?_)
  rotate_left
  ·have h0:¬ (0:Int)<=n:=by simpa using h0
   rw [if_neg (fun z=>h0 z.1)] at q
   exact ⟨_,rfl,iteT ⟨bigr rfl,q⟩⟩
  have h0:(0:Int)<=n:=by simpa using h0
  refine ⟨_,_,rfl,rfl,_,rfl,?_⟩
  by_cases h1:n < 128
  case neg =>
   rw [if_neg (fun z=>h1 z.2)] at q
   rw [decide_eq_false h1]
   exact iteT ⟨bigr rfl,q⟩
  rw [if_pos ⟨h0,h1⟩] at q
  rw [decide_eq_true h1]
  refine iteF ?_
  have p2:(0:Int) < 2:=by decide
  refine ⟨_,rfl,_,_,rfl,rfl,p2,rfl,_,rfl,?_⟩
  refine ite2 (fun hc => ?_) (fun hc => ?_)
  ·have hc:n % 2=1:=by simpa using hc
   refine ⟨_,rfl,_,_,rfl,rfl,⟨p2,by decide⟩,bigr rfl,fun t nt=>⟨bigr rfl,fun p np => ?_⟩⟩
   have s1:Same H (upd H t (.tup [.str "",.int (n / 2)])):=Same.new nt
   refine q p _ [.ref t] (s1.trans (Same.new np)) (s1.free np) zac fun nm _ _ => ?_
   rw [zdS hc]
   refine ⟨⟨t,rfl,?_⟩,trivial⟩
   rw [zah (fun z=>by rw [<- z,zac] at np; cases np)]
   exact zac
  ·have hc:¬ n % 2=1:=by simpa using hc
   refine ⟨bigr rfl,fun pl npl => ?_⟩
   have s1:Same H (upd H pl (.lst [])):=Same.new npl
   obtain ⟨dx,d,hb,_⟩:=id (B.same s1).ins
   refine ⟨_,rfl,b,dx,_,rfl,hb,rfl,b,l,G,cs,past,rfl,B.same s1,fun pn nm npn hnp hns=>⟨_,rfl,⟨_,SqL.of zac⟩,?_⟩⟩
   have nlp:pn≠pl:=fun z=>by rw [z,zac] at npn; cases npn
   have s2:Same H (upd (upd H pl (.lst [])) pn (.lst (nm.map V.str))):=s1.trans (Same.new npn)
   have hnl:nm.length<=8:=by
    have:=hnp.length_eq
    rw [List.length_map] at this
    have:=B.good.len
    omega
   refine zcr (zar K pn (nm.map V.str)) (fun i σ Hx=>Same H Hx/\Hx pn=some (.lst (nm.map V.str))/\∃ ws x3 x4,σ = [some (.ref b),some (.int n),some (.ref pl),x3,x4]/\Hx pl=some (.lst ws)/\ws.length<=i/\StepsR Hx ws (stepsOf (byNames cs (nm.take i)) n)) ⟨s2,zac,[],_,_,rfl,(by rw [zah nlp.symm]; exact zac),Nat.le_refl _,?_⟩ (fun i σ Hx _ h=>SqL.of h.2.1) ?_ ?_
   ·rw [List.take_zero]
    show StepsR _ [] (stepsOf [] n)
    rw [steps_nil hc]
    trivial
   ·rintro i x σ Hx hx ⟨sx,hpn,ws,x3,x4,rfl,hpl,hwl,hst⟩
    rw [List.getElem?_map] at hx
    cases hk:nm[i]? with
    | none=>rw [hk] at hx; cases hx
    | some y =>
     rw [hk] at hx
     cases hx
     have hi:i < nm.length:=(List.getElem?_eq_some_iff.mp hk).1
     have hy:y∈cs.map (·.1):=hnp.mem_iff.mp (List.mem_of_getElem? hk)
     cases hts:cGet cs y with
     | none=>exact absurd hy (get_none.mp hts)
     | some ts =>
      have gts:GT ts:=(B.good.ok _ (zfR hts)).2
      obtain ⟨dx2,d2,hb2,_⟩:=id (B.same sx).ins
      refine ⟨_,rfl,b,dx2,_,rfl,hb2,rfl,_,rfl,b,l,G,cs,past,y,rfl,B.same sx,?_⟩
      rw [hts]
      intro p3 np3
      refine ⟨p3,ts,rfl,SqL.of zac,zff gts,by have:=zgl gts; omega,fun H4 s4 => ?_⟩
      have s34:Same Hx H4:=(Same.new np3).trans s4
      have eN:byNames cs (nm.take (i + 1))=byNames cs (nm.take i) ++ [(y,ts)]:=by
       rw [zaC hk,byNames_snoc hts]
      refine ⟨_,rfl,_,rfl,_,_,rfl,rfl,rfl,_,rfl,?_⟩
      refine ite2 (fun hz => ?_) (fun hz => ?_)
      ·have hz:Builtin.bitAnd n (worth ts)=0:=by simpa using hz
       refine ⟨_,rfl,.inl ⟨rfl,_,SqL.of (s34 _ _ hpl)⟩,_,rfl,_,rfl,_,rfl,_,_,rfl,rfl,_,_,rfl,rfl,⟨p2,by decide⟩,bigr rfl,fun t nt => ?_⟩
       have s5:Same Hx (upd H4 t (.tup [.str y,.int ((n + worth ts) / 2)])):=s34.trans (Same.new nt)
       have nplt:t≠pl:=fun z=>by rw [z,s34 _ _ hpl] at nt; cases nt
       refine ⟨pl,_,_,rfl,rfl,s5 _ _ hpl,Nat.lt_of_lt_of_le (by omega:ws.length < 1000) zaQ,?_⟩
       refine ⟨(sx.trans s5).put npl,(by rw [zah nlp]; exact s5 _ _ hpn),_,_,_,rfl,zac,(by rw [List.length_append,List.length_singleton]; omega),?_⟩
       rw [eN,zda hc,if_pos hz]
       refine StepsR.snoc ?_ (hst.mono fun q' xs hq' => ?_)
       ·rw [zah nplt]; exact zac
       ·have:q'≠pl:=fun z=>by rw [z,hpl] at hq'; cases hq'
        rw [zah this]; exact s5 _ _ hq'
      ·have hz:¬ Builtin.bitAnd n (worth ts)=0:=by simpa using hz
       refine ⟨sx.trans s34,s34 _ _ hpn,ws,_,_,rfl,s34 _ _ hpl,by omega,?_⟩
       rw [eN,zda hc,if_neg hz,List.append_nil]
       exact hst.mono fun q' xs hq'=>s34 _ _ hq'
   ·rintro σ Hx ⟨sx,hpn,ws,x3,x4,rfl,hpl,hwl,hst⟩
    rw [List.length_map,List.take_length] at hst
    refine ⟨_,rfl,q pl Hx ws sx npl hpl fun nm' hp' hs' => ?_⟩
    rw [strs_same (hp'.trans hnp.symm) hs' hns]
    exact hst
noncomputable def TabR (H:Hp) (ts:List V) (C:Combs):Prop:=ts.length=128/\∀ s:Nat,s < 128->∃ q ws,ts[s]?=some (.ref q)/\H q=some (.lst ws)/\StepsR H ws (stp C s)
theorem TabR.same {H H':Hp} {ts:List V} {C:Combs} (t:TabR H ts C) (s:Same H H'):TabR H' ts C :=
 ⟨t.1,fun i h=>let ⟨q,ws,a,b,c⟩:=t.2 i h; ⟨q,ws,a,s _ _ b,c.mono fun _ _ e=>s _ _ e⟩⟩
noncomputable def sp_table (C:Addr):Sp:=fun vs H Q _=>∃ b l G cs past,vs = [.ref b]/\Bk C G H b l cs past/\∀ p H' ts,Same H H'->H p=none->H' p=some (.lst ts)->TabR H' ts (srt cs)->Q (.ref p) H'
theorem zb4:FnScope ["book"] ["book"] (defScope s_step_table):=⟨rfl,rfl,rfl,by decide +kernel,rfl,by decide +kernel,by decide +kernel⟩
theorem ok_table {ea:Nat->Addr} {C:Addr} (D:DefAt K mg "step_table" s_step_table) (T:Bn mg) (V_SHAPES:∃ t,mg "SHAPES" = some (.int 128 t)) (C_shape_steps:Callee1 P w K mg base "shape_steps" 3 ["book","shape"] (sp_steps ea C)):Callee1 P w K mg base "step_table" 4 ["book"] (sp_table C):=by
 refine D.callee1 zb4 (fun _ _ _ _ _ _=>ln1 fun _=>rfl) (fun vs H Q E h => ?_) (fun f cdv A outer s H vs Q E hr h => ?_)
 ·obtain ⟨b,l,G,cs,past,rfl,_⟩:=h
  rfl
 ·obtain ⟨b,l,G,cs,past,rfl,B,q⟩:=h
  have S:=zb4
  refine ⟨_,zaf (zal (za7 (own := ["shape"]) (caps := [(0,"book")]) rfl ⟨rfl,rfl,rfl,rfl,⟨⟨rfl,rfl,.inl rfl⟩,trivial⟩⟩ (zbF rfl T.n_range (zaa (zco rfl V_SHAPES) zae)) (fun _ _ _ _ _ _=>zas (i:=0) (za3 (by decide +kernel)) rfl (Or.inl rfl)) (fun _ _ _ _ _ _=>zbE) (fun _ _ _ _ _ _=>zfD C_shape_steps (hr.mono (by decide)) (by first | exact pass_try | exact zc6 | exact zbk) rfl (zaa (pv 1) (zaa (pv 0) zae))))),?_⟩
  refine ⟨_,rfl,by decide,by decide,fun D hD => ?_⟩
  refine zgq (capv := [some (.ref b)]) (by rfl) (zbd 0 (128:Int).toNat) (by rw [zcN]; exact big (by decide)) hD (fun _ _=>trivial) (fun _=>true) (fun H i v=>∃ (q:Addr) (ws:List V),v = .ref q/\H q=some (.lst ws)/\StepsR H ws (stp (srt cs) i)) ?_ ?_ (fun i x hx H R s' h=>h H (Same.refl _)) ?_ ?_
  ·rintro H H' i v s' ⟨qa,ws,e2,e3,e4⟩
   exact ⟨qa,ws,e2,s' _ _ e3,e4.mono fun _ _ e=>s' _ _ e⟩
  ·rintro H i v l' l'' hv hH ⟨qa,ws,e2,e3,e4⟩
   subst e2
   have hne:qa≠D:=fun z=>hv (by rw [z])
   refine ⟨qa,ws,rfl,(by rw [zah hne]; exact e3),e4.mono fun q' xs e => ?_⟩
   rw [zah (fun z=>by rw [z,hH] at e; cases e)]
   exact e
  ·intro i x hx _ H' R s' hDn h
   obtain ⟨hi,rfl⟩:=zca hx
   rw [Int.zero_add]
   refine ⟨_,rfl,_,rfl,b,l,G,cs,past,((i:Nat):Int),rfl,B.same s',?_⟩
   rw [if_pos ⟨by omega,by have:i < 128:=hi; omega⟩]
   intro p H2 ws s2 np hp st
   exact h H2 _ s2 (fun z=>hDn (by injection z with z; rw [<- z]; exact np)) ⟨p,ws,rfl,hp,st _ (zfF cs) (nm_sorted cs)⟩
  ·intro H' ys s' hD' pr
   rw [zcN,List.filter_eq_self.mpr (fun _ _=>rfl)] at pr
   refine q _ H' ys s' hD hD' ⟨by rw [<- Paired.length pr,List.length_range]; rfl,fun i hi => ?_⟩
   obtain ⟨y,ey,_,qa,ws,rfl,e3,e4⟩:=Paired.at pr (List.getElem?_range (show i < (128:Int).toNat from hi))
   exact ⟨qa,ws,ey,e3,e4⟩
noncomputable def sp_leads:Sp:=fun vs H Q _=>∃ (a r:Addr) (ws:List V) (ps:List (Str×Int)) (row:List Bool),vs = [.ref a,.ref r]/\H a=some (.lst ws)/\StepsR H ws ps/\ps.length<=1000/\(∀ p∈ps,0<=p.2/\p.2.toNat < row.length)/\H r=some (.lst (row.map V.bl))/\∀ H',Same H H'->Q (.bl (ps.any fun p=>tr row p.2.toNat)) H'
theorem zev {row:List Bool} {t:Int} (h0:0<=t) (h:t.toNat < row.length):atI (row.map V.bl) t=some (.bl (tr row t.toNat)):=by
 refine atI_int h0 ?_
 rw [List.getElem?_map,List.getElem?_eq_getElem h]
 simp [tr,h]
theorem zei {α : Type} (ps:List α) (f : α -> Bool) (d : α):((List.range ps.length).map fun i=>f (ps.getD i d)).any (fun b=>b)=ps.any f:=by
 rw [List.any_map]
 rw [Bool.eq_iff_iff,List.any_eq_true,List.any_eq_true]
 constructor
 ·rintro ⟨i,hi,h⟩
  have hi:=List.mem_range.mp hi
  refine ⟨ps[i],List.getElem_mem hi,?_⟩
  have h:f (ps.getD i d)=true:=h
  simpa [hi] using h
 ·rintro ⟨x,hx,h⟩
  obtain ⟨i,hi,rfl⟩:=List.getElem_of_mem hx
  exact ⟨i,List.mem_range.mpr hi,by show f (ps.getD i d)=true; simpa [hi] using h⟩
theorem zcL:FnScope ["steps","row"] ["steps","row"] (defScope s_leads_on):=⟨rfl,rfl,rfl,by decide +kernel,rfl,by decide +kernel,by decide +kernel⟩
theorem ok_leads (D:DefAt K mg "leads_on" s_leads_on) (T:Bn mg):Callee P w K mg base "leads_on" 1 ["steps","row"] sp_leads:=by
 refine D.callee zcL (fun _ _ _ _ _ _=>ln2 fun _ _=>rfl) (fun vs H Q E h => ?_) (fun f cdv A outer s H vs Q E hr h => ?_)
 ·obtain ⟨a,r,ws,ps,row,rfl,_⟩:=h
  rfl
 ·obtain ⟨a,r,ws,ps,row,rfl,ha,st,hl,hlt,hrow,q⟩:=h
  have S:=zcL
  refine ⟨_,zaf (zal (zak (zfa rfl) rfl T.n_any boot_any (zaa (za7 (own := ["step"]) (caps := [(1,"row")]) rfl ⟨rfl,rfl,rfl,rfl,⟨⟨rfl,rfl,.inl rfl⟩,trivial⟩⟩ (zaJ (pv 0)) (fun _ _ _ _ _ _=>zas (i:=0) (za3 (by decide +kernel)) rfl (Or.inl rfl)) (fun _ _ _ _ _ _=>zbE) (fun _ _ _ _ _ _=>zau (ze4 K rfl) (pv 1) (zau (zer K rfl) (pv 0) (zab) (fun _ _=>rfl)) (fun _ _=>rfl))) zae))),?_⟩
  have hlw:=st.length
  refine ⟨_,rfl,_,rfl,⟨_,SqL.of ha⟩,fun D hD => ?_⟩
  refine ze8 (capv := [some (.ref r)]) (by rfl) (zar K a ws) (big (by omega)) hD (fun H' s'=>SqL.of (s' _ _ ha)) (fun _=>true) (fun i => .bl (tr row (ps.getD i ("",0)).2.toNat)) (fun _ _ _=>nofun) (fun i x hx H R s' h=>h H (Same.refl _)) ?_ ?_
  ·intro i x hx _ H' R s' h
   have hi:i < ps.length:=by rw [<- hlw]; exact (List.getElem?_eq_some_iff.mp hx).1
   obtain ⟨qa,e1,e2⟩:=st.get (List.getElem?_eq_getElem hi)
   rw [hx] at e1
   cases e1
   obtain ⟨h0,h1⟩:=hlt ps[i] (List.getElem_mem hi)
   refine ⟨_,rfl,_,rfl,_,_,_,_,rfl,rfl,SqT.of (s' _ _ e2),at1,_,_,_,_,rfl,rfl,SqL.of (s' _ _ hrow),zev h0 h1,?_⟩
   have:=h H' (Same.refl _)
   simpa [hi] using this
  ·intro H' s' e
   refine ⟨_,(List.range ws.length).map fun i=>tr row (ps.getD i ("",0)).2.toNat,rfl,SqL.of ?_,?_⟩
   ·rw [e,List.filter_eq_self.mpr (fun _ _=>rfl),List.map_map]
    rfl
   ·have:=q H' s'
    rw [<- zei ps _ ("",0)] at this
    rw [hlw]
    exact this
noncomputable def sp_narrow:Sp:=fun vs H Q _=>∃ (a r:Addr) (ts:List V) (C:Combs) (row:List Bool),vs = [.ref a,.ref r]/\H a=some (.lst ts)/\TabR H ts C/\GC C/\C.length<=8/\H r=some (.lst (row.map V.bl))/\row.length=128/\∀ p H',Same H H'->H p=none->H' p=some (.lst ((nxtRow C row).map V.bl))->Q (.ref p) H'
theorem zb5:FnScope ["table","row"] ["table","row"] (defScope s_narrow_row):=⟨rfl,rfl,rfl,by decide +kernel,rfl,by decide +kernel,by decide +kernel⟩
theorem ok_narrow (D:DefAt K mg "narrow_row" s_narrow_row) (T:Bn mg) (C_leads_on:Callee P w K mg base "leads_on" 1 ["steps","row"] sp_leads):Callee P w K mg base "narrow_row" 2 ["table","row"] sp_narrow:=by
 refine D.callee zb5 (fun _ _ _ _ _ _=>ln2 fun _ _=>rfl) (fun vs H Q E h => ?_) (fun f cdv A outer s H vs Q E hr h => ?_)
 ·obtain ⟨a,r,ts,C,row,rfl,_⟩:=h
  rfl
 ·obtain ⟨a,r,ts,C,row,rfl,ha,tb,gc,h8,hrow,hrl,q⟩:=h
  have S:=zb5
  refine ⟨_,zaf (zal (za7 (own := ["steps"]) (caps := [(1,"row")]) rfl ⟨rfl,rfl,rfl,rfl,⟨⟨rfl,rfl,.inl rfl⟩,trivial⟩⟩ (zaJ (pv 0)) (fun _ _ _ _ _ _=>zas (i:=0) (za3 (by decide +kernel)) rfl (Or.inl rfl)) (fun _ _ _ _ _ _=>zbE) (fun _ _ _ _ _ _=>zaK C_leads_on (hr.mono (by decide)) rfl (zaa (pv 0) (zaa (pv 1) zae))))),?_⟩
  refine ⟨_,rfl,_,rfl,⟨_,SqL.of ha⟩,fun D hD => ?_⟩
  refine ze8 (capv := [some (.ref r)]) (by rfl) (zar K a ts) (by rw [tb.1]; exact big (by decide)) hD (fun H' s'=>SqL.of (s' _ _ ha)) (fun _=>true) (fun i => .bl ((stp C i).any fun p=>tr row p.2.toNat)) (fun _ _ _=>nofun) (fun i x hx H R s' h=>h H (Same.refl _)) ?_ ?_
  ·intro i x hx _ H' R s' h
   have hi:i < 128:=by rw [<- tb.1]; exact (List.getElem?_eq_some_iff.mp hx).1
   obtain ⟨qa,ws,e1,e2,e3⟩:=(tb.same s').2 i hi
   rw [hx] at e1
   cases e1
   exact ⟨_,rfl,_,rfl,qa,r,ws,_,row,rfl,e2,e3,Nat.le_trans (zdr h8 i) (by decide),fun p hp=>by rw [hrl]; exact zcu gc hi hp,s' _ _ hrow,fun H2 s2=>h H2 s2⟩
  ·intro H' s' e
   refine q D H' s' hD ?_
   rw [e,List.filter_eq_self.mpr (fun _ _=>rfl),tb.1]
   unfold nxtRow
   rw [List.map_map]
   rfl
noncomputable def sp_first:Sp:=fun vs H Q _=>∃ (a r:Addr) (ws:List V) (ps:List (Str×Int)) (row:List Bool) (p:Str×Int),vs = [.ref a,.ref r]/\H a=some (.lst ws)/\StepsR H ws ps/\ps.length<=1000/\(∀ p∈ps,0<=p.2/\p.2.toNat < row.length)/\H r=some (.lst (row.map V.bl))/\ps.find? (fun p=>tr row p.2.toNat)=some p/\∀ x H',Same H H'->H' x=some (.tup [.str p.1,.int p.2])->Q (.ref x) H'
theorem find_filter {α : Type} {ps:List α} {f : α -> Bool} {p d : α} (h:ps.find? f=some p):∃ i,((List.range ps.length).filter fun i=>f (ps.getD i d))[0]?=some i/\ps[i]?=some p:=by
 induction ps with
 | nil=>cases h
 | cons x ps ih =>
  rw [List.length_cons,List.range_succ_eq_map,List.filter_cons]
  by_cases e:f x=true
  ·rw [List.find?_cons_of_pos e] at h
   cases h
   exact ⟨0,by rw [if_pos (by simpa using e)]; rfl,rfl⟩
  ·rw [List.find?_cons_of_neg e] at h
   obtain ⟨i,h1,h2⟩:=ih h
   refine ⟨i + 1,?_,by simpa using h2⟩
   rw [if_neg (by simpa using e),List.filter_map,List.getElem?_map]
   show (((List.range ps.length).filter fun i=>f (ps.getD i d))[0]?).map _=_
   rw [h1]
   rfl
theorem za5:FnScope ["steps","lasting"] ["steps","lasting"] (defScope s_first_lasting_step):=⟨rfl,rfl,rfl,by decide +kernel,rfl,by decide +kernel,by decide +kernel⟩
theorem ok_first (D:DefAt K mg "first_lasting_step" s_first_lasting_step) (T:Bn mg):Callee P w K mg base "first_lasting_step" 1 ["steps","lasting"] sp_first:=by
 refine D.callee za5 (fun _ _ _ _ _ _=>ln2 fun _ _=>rfl) (fun vs H Q E h => ?_) (fun f cdv A outer s H vs Q E hr h => ?_)
 ·obtain ⟨a,r,ws,ps,row,p,rfl,_⟩:=h
  rfl
 ·obtain ⟨a,r,ws,ps,row,p,rfl,ha,st,hl,hlt,hrow,hf,q⟩:=h
  have S:=za5
  refine ⟨_,zaf (zal (zau zaD (za7 (own := ["step"]) (caps := [(1,"lasting")]) rfl ⟨rfl,rfl,rfl,rfl,⟨⟨rfl,rfl,.inl rfl⟩,trivial⟩⟩ (zaJ (pv 0)) (fun _ _ _ _ _ _=>zas (i:=0) (za3 (by decide +kernel)) rfl (Or.inl rfl)) (fun _ _ _ _ _ _=>zdw (zbh (zau (ze4 K rfl) (pv 1) (zau (zer K rfl) (pv 0) (zab) (fun _ _=>rfl)) (fun _ _=>rfl)))) (fun _ _ _ _ _ _=>pv 0)) (zab) (fun _ _=>rfl))),?_⟩
  have hlw:=st.length
  refine ⟨_,rfl,_,rfl,⟨_,SqL.of ha⟩,fun D hD => ?_⟩
  have hne:∀ i,i < ws.length->ws.getD i .non ≠ .ref D:=fun i hi z=>by
   obtain ⟨qa,e1,e2⟩:=st.get (List.getElem?_eq_getElem (show i < ps.length by omega))
   rw [List.getD_eq_getElem?_getD,e1] at z
   cases z
   rw [hD] at e2
   cases e2
  refine ze8 (capv := [some (.ref r)]) (by rfl) (zar K a ws) (big (by omega)) hD (fun H' s'=>SqL.of (s' _ _ ha)) (fun i=>tr row (ps.getD i ("",0)).2.toNat) (fun i=>ws.getD i .non) (fun i hi _=>hne i hi) ?_ ?_ ?_
  ·intro i x hx H' R s' h
   have hi:i < ps.length:=by rw [<- hlw]; exact (List.getElem?_eq_some_iff.mp hx).1
   obtain ⟨qa,e1,e2⟩:=st.get (List.getElem?_eq_getElem hi)
   rw [hx] at e1
   cases e1
   obtain ⟨h0,h1⟩:=hlt ps[i] (List.getElem_mem hi)
   refine ⟨_,rfl,_,rfl,_,_,_,_,rfl,rfl,SqT.of (s' _ _ e2),at1,_,_,_,_,rfl,rfl,SqL.of (s' _ _ hrow),zev h0 h1,_,rfl,?_⟩
   have:=h H' (Same.refl _)
   simpa [hi] using this
  ·intro i x hx _ H' R s' h
   refine ⟨_,rfl,?_⟩
   have:=h H' (Same.refl _)
   rw [List.getD_eq_getElem?_getD,hx] at this
   exact this
  ·intro H' s' e
   obtain ⟨i,h1,h2⟩:=find_filter (d:=(("",0):Str×Int)) hf
   rw [hlw] at e
   obtain ⟨qa,e1,e2⟩:=st.get h2
   refine ⟨_,_,_,_,rfl,rfl,SqL.of e,zaH (j:=0) ?_,q qa H' s' (s' _ _ e2)⟩
   rw [List.getElem?_map,h1,Option.map_some,List.getD_eq_getElem?_getD,e1]
   rfl
noncomputable def sp_rows:Sp:=fun vs H Q _=>∃ (a:Addr) (ts:List V) (C:Combs),vs = [.ref a]/\H a=some (.lst ts)/\TabR H ts C/\GC C/\C.length<=8/\∀ p H' ws m,Same H H'->H p=none->H' p=some (.lst ws)->RowsR H' ws C m->nxtRow C (rowAt C m)=rowAt C m->m<=128->Q (.ref p) H'
theorem zbx:FnScope ["table","rows","narrowed"] ["table"] (defScope s_rows_going_on):=⟨rfl,rfl,rfl,by decide +kernel,rfl,by decide +kernel,by decide +kernel⟩
theorem ok_rows (D:DefAt K mg "rows_going_on" s_rows_going_on) (T:Bn mg) (C_narrow_row:Callee P w K mg base "narrow_row" 2 ["table","row"] sp_narrow):Callee P w K mg base "rows_going_on" 3 ["table"] sp_rows:=by
 refine D.callee zbx (fun _ _ _ _ _ _=>ln1 fun _=>rfl) (fun vs H Q E h => ?_) (fun f cdv A outer s H vs Q E hr h => ?_)
 ·obtain ⟨a,ts,C,rfl,_⟩:=h
  rfl
 ·obtain ⟨a,ts,C,rfl,ha,tb,gc,h8,q⟩:=h
  have S:=zbx
  refine ⟨_,zad (zap (i:=1) S.nd rfl (Or.inl rfl) (zaP (zaa (za7 (own := ["steps"]) (caps := []) rfl ⟨rfl,rfl,rfl,rfl,trivial⟩ (zaJ (pv 0)) (fun _ _ _ _ _ _=>zas (i:=0) (za3 (by decide +kernel)) rfl (Or.inl rfl)) (fun _ _ _ _ _ _=>zbE) (fun _ _ _ _ _ _=>zbO)) zae)))
  (zad (zap (i:=2) S.nd rfl (Or.inl rfl) (zaK C_narrow_row (hr.mono (by decide)) rfl (zaa (pv 0) (zaa (zau zaD (pv 1) (zdy zb1 (zab)) (fun _ _=>rfl)) zae))))
  (zad (zcc PassesOwn.never (zaq (zeW hr.units) (pv 2) (zau zaD (pv 1) (zdy zb1 (zab)) (fun _ _=>rfl)) (zat _))
   (zad (za6 (zc5 PySem.F.plainAttrs_list PySem.F.slot_list_append PySem.F.type_list_append zaM (pv 1) (zaa (pv 2) zae)))
   (zaf (zap (i:=2) S.nd rfl (Or.inl rfl) (zaK C_narrow_row (hr.mono (by decide)) rfl (zaa (pv 0) (zaa (zau zaD (pv 1) (zdy zb1 (zab)) (fun _ _=>rfl)) zae)))))))
  (zaf (zal (pv 1))))),?_⟩
  refine ⟨_,rfl,_,rfl,⟨_,SqL.of ha⟩,fun D hD => ?_⟩
  refine ze8 (capv := []) (by rfl) (zar K a ts) (by rw [tb.1]; exact big (by decide)) hD (fun H' s'=>SqL.of (s' _ _ ha)) (fun _=>true) (fun _ => .bl true) (fun _ _ _=>nofun) (fun i x hx H R s' h=>h H (Same.refl _)) (fun i x hx _ H R s' h=>h H (Same.refl _)) ?_
  intro H1 s1 e1
  have e1:H1 D=some (.lst ((rowAt C 0).map V.bl)):=by
   rw [e1,List.filter_eq_self.mpr (fun _ _=>rfl),tb.1]
   rfl
  refine ⟨bigr rfl,fun p np => ?_⟩
  have s2:Same H1 (upd H1 p (.lst [.ref D])):=Same.new np
  have rr:RowsR (upd H1 p (.lst [.ref D])) [.ref D] C 0:=⟨rfl,fun i hi=>⟨D,by rw [show i=0 by omega]; rfl,by rw [show i=0 by omega]; exact s2 _ _ e1⟩⟩
  have s02:=s1.trans s2
  have np0:H p=none:=s1.free np
  have hp2:upd H1 p (.lst [.ref D]) p=some (.lst [.ref D]):=zac
  generalize upd H1 p (.lst [.ref D])=H2 at s2 rr s02 hp2
  refine ⟨_,rfl,_,rfl,_,rfl,_,_,_,_,rfl,rfl,SqL.of hp2,zdp rr.1 rfl,?_⟩
  refine ⟨a,D,ts,C,rowAt C 0,rfl,s02 _ _ ha,tb.same s02,gc,h8,s2 _ _ e1,zaY C 0,fun p3 H3 s3 np3 hp3 => ?_⟩
  refine ⟨fun k σ Hx=>∃ m ws qn,σ = [some (.ref a),some (.ref p),some (.ref qn)]/\Same H Hx/\Hx p=some (.lst ws)/\RowsR Hx ws C m/\(rowAt C m).count true + m<=128/\Hx qn=some (.lst ((rowAt C (m + 1)).map V.bl))/\k=(rowAt C m).count true,⟨_,0,_,p3,rfl,s02.trans s3,s3 _ _ hp2,rr.same s3,?_,hp3,rfl⟩,?_⟩
  ·have:=List.count_le_length (a:=true) (l:=rowAt C 0)
   rw [zaY] at this
   omega
  rintro k σ Hx ⟨m,ws,qn,rfl,sx,hpx,rx,hcx,hqn,rfl⟩
  obtain ⟨ql,el1,el2⟩:=rx.2 m (Nat.le_refl _)
  refine ⟨_,rfl,_,rfl,_,rfl,_,_,_,_,rfl,rfl,SqL.of hpx,zdp rx.1 el1,_,_,zeB hqn,zeB el2,zcv _,zcv _,_,rfl,?_⟩
  rw [if_pos rfl,eqv_bools]
  by_cases e:rowAt C (m + 1)=rowAt C m
  ·rw [decide_eq_true e]
   refine iteF ?_
   exact ⟨_,rfl,q p Hx ws m sx np0 hpx rx e (by omega)⟩
  ·rw [decide_eq_false e]
   refine iteT ?_
   have less:=row_less gc e
   refine ⟨fun σ' H'=>∃ m',m' < (rowAt C m).count true/\∃ mm ws qn,σ' = [some (.ref a),some (.ref p),some (.ref qn)]/\Same H H'/\H' p=some (.lst ws)/\RowsR H' ws C mm/\(rowAt C mm).count true + mm<=128/\H' qn=some (.lst ((rowAt C (mm + 1)).map V.bl))/\m'=(rowAt C mm).count true,fun σ' H' h=>h,?_⟩
   have hwl:=rx.1
   refine ⟨_,rfl,.inl ⟨rfl,_,SqL.of hpx⟩,_,rfl,p,ws,_,rfl,rfl,hpx,Nat.lt_of_lt_of_le (by omega:ws.length < 1000) zaQ,?_⟩
   have rs:=rx.snoc hpx hqn
   have sp:=sx.put (o := .lst (ws ++ [.ref qn])) np0
   have hp4:upd Hx p (.lst (ws ++ [.ref qn])) p=some (.lst (ws ++ [.ref qn])):=zac
   generalize upd Hx p (.lst (ws ++ [.ref qn]))=H4 at rs sp hp4
   obtain ⟨ql',el1',el2'⟩:=rs.2 (m + 1) (Nat.le_refl _)
   refine ⟨_,rfl,_,rfl,_,rfl,_,_,_,_,rfl,rfl,SqL.of hp4,zdp rs.1 el1',?_⟩
   refine ⟨a,ql',ts,C,rowAt C (m + 1),rfl,sp _ _ ha,tb.same sp,gc,h8,el2',zaY C _,fun p5 H5 s5 np5 hp5 => ?_⟩
   exact ⟨_,less,m + 1,_,p5,rfl,sp.trans s5,s5 _ _ hp4,rs.same s5,by omega,hp5,rfl⟩
noncomputable def sp_walk:Sp:=fun vs H Q _=>∃ (a r:Addr) (ts:List V) (C:Combs) (row:List Bool) (s:Nat),vs = [.ref a,.ref r,.int (s:Int)]/\H a=some (.lst ts)/\TabR H ts C/\GC C/\C.length<=8/\H r=some (.lst (row.map V.bl))/\row.length=128/\nxtRow C row=row/\s < 128/\tr row s=true /\
 ∀ t ls pl start n ws H',Same H H'->start < n->n<=128->wk C row s n=wk C row s start->((List.range n).map (wk C row s)).Nodup->H' t=some (.tup [.int (start:Nat),.ref ls,.ref pl])->H' ls=some (.lst ((List.range n).map fun j=>V.int (wk C row s j:Nat)))->H' pl=some (.lst ws)->LaysR H' ws (wn C row s) n->Q (.ref t) H'
theorem zb3:FnScope ["table","lasting","shape","seen","layings","place","step"] ["table","lasting","shape"] (defScope s_walk_round):=⟨rfl,rfl,rfl,by decide +kernel,rfl,by decide +kernel,by decide +kernel⟩
theorem ok_walk (D:DefAt K mg "walk_round" s_walk_round) (T:Bn mg) (C_first_lasting_step:Callee P w K mg base "first_lasting_step" 1 ["steps","lasting"] sp_first):Callee P w K mg base "walk_round" 2 ["table","lasting","shape"] sp_walk:=by
 refine D.callee zb3 (fun _ _ _ _ _ _=>ln3 fun _ _ _=>rfl) (fun vs H Q E h => ?_) (fun f cdv A outer s H vs Q E hr h => ?_)
 ·obtain ⟨a,r,ts,C,row,s0,rfl,_⟩:=h
  rfl
 ·obtain ⟨a,r,ts,C,row,s0,rfl,ha,tb,gc,h8,hrow,hrl,hst,hs0,ht0,q⟩:=h
  have S:=zb3
  have hu:=zci hr
  have wok:=zfh gc hst hs0 ht0
  refine ⟨_,zad (zap (i:=3) S.nd rfl (Or.inl rfl) (zdA))
  (zad (zap (i:=4) S.nd rfl (Or.inl rfl) (zaP (zae)))
  (zad (zcc PassesOwn.never (zdX (zcd hu (pv 2) (pv 3)))
   (zad (zap (i:=5) S.nd rfl (Or.inl rfl) (zak zec rfl T.n_len PySem.boot_len (zaa (pv 3) zae)))
   (zad (zcP hu (pv 3) (pv 2) (pv 5) rfl)
   (zad (zap (i:=6) S.nd rfl (Or.inl rfl) (zaK C_first_lasting_step (hr.mono (by decide)) rfl (zaa (zau zaD (pv 0) (pv 2) (fun _ _=>rfl)) (zaa (pv 1) zae))))
   (zdx (zaF (zaq zeo (zau zaB (pv 6) (zab) (fun _ _=>rfl)) (zaR) (zat _))
    (zaf (za6 (zc5 PySem.F.plainAttrs_list PySem.F.slot_list_append PySem.F.type_list_append zaM (pv 4) (zaa (zbA (zaa (pv 5) (zaa (zau zaB (pv 6) (zab) (fun _ _=>rfl)) zae))) zae))))
    (zan))
   (zaf (zap (i:=2) S.nd rfl (Or.inl rfl) (zau zaB (pv 6) (zab) (fun _ _=>rfl)))))))))
  (zaf (zal (zbA (zaa (zdB hu (pv 3) (pv 2) (fun _ _=>rfl)) (zaa (zaZ (call_listD rfl) rfl T.n_list boot_list (zaa (pv 3) zae)) (zaa (pv 4) zae)))))))),?_⟩
  refine fun sd nsd=>⟨bigr rfl,fun pl npl => ?_⟩
  have s1:Same H (upd H sd (.dK [])):=Same.new nsd
  have npl0:H pl=none:=s1.free npl
  have nps:pl≠sd:=fun z=>by rw [z,zac] at npl; cases npl
  have s2:Same H (upd (upd H sd (.dK [])) pl (.lst [])):=s1.trans (Same.new npl)
  refine ⟨fun k σ Hx=>∃ i ws x5 x6,σ = [some (.ref a),some (.ref r),some (.int (wk C row s0 i:Nat)),some (.ref sd),some (.ref pl),x5,x6]/\Same H Hx/\Hx sd=some (.dK (seenK (wk C row s0) i))/\Hx pl=some (.lst ws)/\LaysR Hx ws (wn C row s0) i/\((List.range i).map (wk C row s0)).Nodup/\k=128 - i,⟨128,0,[],_,_,rfl,s2,(by rw [zah nps.symm]; exact zac),zac,.nil,List.nodup_nil,rfl⟩,?_⟩
  rintro k σ Hx ⟨i,ws,x5,x6,rfl,sx,hsd,hpl,lr,nd,rfl⟩
  refine ⟨_,rfl,_,rfl,sd,_,rfl,DGet.k (k:=Sum.inl _) hsd,_,rfl,?_⟩
  rw [zcK]
  have h128:i<=128:=by
   have:=zaX 128 _ nd (fun x hx=>by obtain ⟨j,_,rfl⟩:=List.mem_map.mp hx; exact (wok j).1)
   rwa [List.length_map,List.length_range] at this
  cases ef:(List.range i).find? fun j=>decide (wk C row s0 j=wk C row s0 i) with
  | some j =>
   refine iteF ?_
   have hj:j < i:=List.mem_range.mp (List.mem_of_find?_eq_some ef)
   have ej:wk C row s0 j=wk C row s0 i:=by have:=List.find?_some ef; simpa using this
   have ev:valV (seenK (wk C row s0) i) (Sum.inl ((wk C row s0 i:Nat):Int))=some (.int (j:Int)):=by rw [zcK,ef]; rfl
   have dg:DGet Hx sd (kV (Sum.inl ((wk C row s0 i:Nat):Int))) (some (.int (j:Int))):=by rw [<- ev]; exact DGet.k hsd
   refine ⟨_,rfl,_,rfl,sd,_,rfl,dg,_,rfl,sd,_,rfl,.inl hsd,fun ls nls => ?_⟩
   have s3:Same Hx (upd Hx ls (.lst ((seenK (wk C row s0) i).map fun kv=>kV kv.1))):=Same.new nls
   refine ⟨_,rfl,bigr rfl,fun t nt => ?_⟩
   refine q t ls pl j i ws _ ((sx.trans s3).trans (Same.new nt)) hj h128 ej.symm nd zac ?_ ?_ ?_
   ·rw [zah (zai (zac (H:=Hx) (a:=ls)) nt),zac]
    unfold seenK
    rw [List.map_map]
    rfl
   ·exact Same.new nt _ _ (s3 _ _ hpl)
   ·exact lr.mono fun qa xs e=>Same.new nt _ _ (s3 _ _ e)
  | none =>
   refine iteT ?_
   have hno:∀ j,j < i->wk C row s0 j≠wk C row s0 i:=fun j hj=>by
    have:=List.find?_eq_none.mp ef j (List.mem_range.mpr hj)
    simpa using this
   have nd':((List.range (i + 1)).map (wk C row s0)).Nodup:=by
    rw [List.range_succ,List.map_append]
    refine List.nodup_append.mpr ⟨nd,by simp,fun x hx y hy => ?_⟩
    obtain ⟨j,hj,rfl⟩:=List.mem_map.mp hx
    rw [List.map_cons,List.map_nil,List.mem_singleton] at hy
    rw [hy]
    exact hno j (List.mem_range.mp hj)
   have h129:i + 1<=128:=by
    have:=zaX 128 _ nd' (fun x hx=>by obtain ⟨j,_,rfl⟩:=List.mem_map.mp hx; exact (wok j).1)
    rwa [List.length_map,List.length_range] at this
   have ev:valV (seenK (wk C row s0) i) (Sum.inl ((wk C row s0 i:Nat):Int))=none:=by rw [zcK,ef]; rfl
   refine ⟨fun σ' H'=>∃ m',m' < 128 - i/\∃ i ws x5 x6,σ' = [some (.ref a),some (.ref r),some (.int (wk C row s0 i:Nat)),some (.ref sd),some (.ref pl),x5,x6]/\Same H H'/\H' sd=some (.dK (seenK (wk C row s0) i))/\H' pl=some (.lst ws)/\LaysR H' ws (wn C row s0) i/\((List.range i).map (wk C row s0)).Nodup/\m'=128 - i,fun _ _ h=>h,?_⟩
   refine ⟨_,rfl,_,_,rfl,hsd,?_⟩
   rw [zdT]
   refine ⟨_,rfl,_,rfl,_,rfl,sd,_,rfl,DPut.k (k:=Sum.inl _) hsd ?_,?_⟩
   ·rw [zdT]; exact Nat.lt_of_lt_of_le (by omega:i < 1000) zaQ
   rw [zcD _ ev,<- seenK_succ]
   have s3:=sx.put (o := .dK (seenK (wk C row s0) (i + 1))) nsd
   have hsd3:upd Hx sd (.dK (seenK (wk C row s0) (i + 1))) sd=some (.dK (seenK (wk C row s0) (i + 1))):=zac
   have hpl3:upd Hx sd (.dK (seenK (wk C row s0) (i + 1))) pl=some (.lst ws):=by rw [zah nps]; exact hpl
   have lr3:LaysR (upd Hx sd (.dK (seenK (wk C row s0) (i + 1)))) ws (wn C row s0) i:=lr.mono fun qa xs e=>by rw [zah (fun z=>by rw [z,hsd] at e; cases e)]; exact e
   generalize upd Hx sd (.dK (seenK (wk C row s0) (i + 1)))=H3 at s3 hsd3 hpl3 lr3
   obtain ⟨qs,wss,e1,e2,e3⟩:=(tb.same s3).2 _ (wok i).1
   refine ⟨_,rfl,_,rfl,_,_,_,_,rfl,rfl,SqL.of (s3 _ _ ha),zaH e1,_,rfl,?_⟩
   refine ⟨qs,r,wss,stp C (wk C row s0 i),row,_,rfl,e2,e3,Nat.le_trans (zdr h8 _) (by decide),fun p hp=>by rw [hrl]; exact zcu gc (wok i).1 hp,s3 _ _ hrow,zfg gc hst hs0 ht0 i,fun x H4 s4 hx => ?_⟩
   have s04:=s3.trans s4
   refine ⟨fun σ' H'=>∃ ws,σ' = [some (.ref a),some (.ref r),some (.int (wk C row s0 i:Nat)),some (.ref sd),some (.ref pl),some (.int (i:Int)),some (.ref x)]/\Same H H'/\H' sd=some (.dK (seenK (wk C row s0) (i + 1)))/\H' pl=some (.lst ws)/\LaysR H' ws (wn C row s0) (i + 1)/\H' x=some (.tup [.str (wn C row s0 i),.int (wk C row s0 (i + 1):Nat)]),?_,?_⟩
   ·refine ⟨_,rfl,_,_,_,_,rfl,rfl,SqT.of hx,at0,rfl,_,rfl,?_⟩
    by_cases e:wn C row s0 i=Str.ofString ""
    ·rw [decide_eq_true (by rw [e])]
     refine iteF ?_
     exact ⟨ws,rfl,s04,s4 _ _ hsd3,s4 _ _ hpl3,(lr3.mono fun qa xs e=>s4 _ _ e).skip e,hx⟩
    ·rw [decide_eq_false (fun z=>e (by injection z))]
     refine iteT ?_
     refine ⟨_,rfl,.inl ⟨rfl,_,SqL.of (s4 _ _ hpl3)⟩,_,rfl,_,rfl,_,_,_,_,rfl,rfl,SqT.of hx,at0,bigr rfl,fun t nt => ?_⟩
     have s5:Same H4 (upd H4 t (.tup [.int (i:Int),.str (wn C row s0 i)])):=Same.new nt
     have hpl5:=s5 _ _ (s4 _ _ hpl3)
     have hsd5:=s5 _ _ (s4 _ _ hsd3)
     have hx5:=s5 _ _ hx
     have lr5:=lr3.mono fun qa xs e=>s5 _ _ (s4 _ _ e)
     have ht5:upd H4 t (.tup [.int (i:Int),.str (wn C row s0 i)]) t=some (.tup [.int (i:Int),.str (wn C row s0 i)]):=zac
     have s05:=s04.trans s5
     generalize upd H4 t (.tup [.int (i:Int),.str (wn C row s0 i)])=H5 at hpl5 hsd5 hx5 lr5 ht5 s05
     have hlen:=lr5.len
     refine ⟨pl,ws,_,rfl,rfl,hpl5,Nat.lt_of_lt_of_le (by omega:ws.length < 1000) zaQ,?_⟩
     have ne:∀ {qa:Addr} {xs:List V},H5 qa=some (.tup xs)->qa≠pl:=fun e z=>by rw [z,hpl5] at e; cases e
     refine ⟨ws ++ [.ref t],rfl,s05.put npl0,(by rw [zah nps.symm]; exact hsd5),zac,?_,(by rw [zah (ne hx5)]; exact hx5)⟩
     exact (lr5.mono fun qa xs e=>by rw [zah (ne e)]; exact e).snoc e (by rw [zah (ne ht5)]; exact ht5)
   ·rintro σ' H5 ⟨ws',rfl,s5,hsd5,hpl5,lr5,hx5⟩
    refine ⟨_,rfl,_,_,_,_,rfl,rfl,SqT.of hx5,at1,?_⟩
    exact ⟨_,(by omega:128 - (i + 1) < 128 - i),i + 1,ws',_,_,rfl,s5,hsd5,hpl5,lr5,nd',rfl⟩
noncomputable def sp_behind:Sp:=fun vs H Q _=>∃ (a l:Addr) (ts:List V) (C:Combs) (ns:List Nat),vs = [.ref a,.ref l]/\H a=some (.lst ts)/\TabR H ts C/\GC C/\C.length<=8/\H l=some (.lst (ns.map fun s=>V.int (s:Nat)))/\(∀ s∈ns,s < 128)/\ns.length<=128/\∀ p H',Same H H'->H p=none->H' p=some (.lst ((behN C ns).map fun s=>V.int (s:Nat)))->Q (.ref p) H'
theorem zbw:FnScope ["table","shapes","reached","shape","step"] ["table","shapes"] (defScope s_shapes_behind):=⟨rfl,rfl,rfl,by decide +kernel,rfl,by decide +kernel,by decide +kernel⟩
theorem ok_behind (D:DefAt K mg "shapes_behind" s_shapes_behind) (T:Bn mg):Callee P w K mg base "shapes_behind" 1 ["table","shapes"] sp_behind:=by
 refine D.callee zbw (fun _ _ _ _ _ _=>ln2 fun _ _=>rfl) (fun vs H Q E h => ?_) (fun f cdv A outer s H vs Q E hr h => ?_)
 ·obtain ⟨a,l,ts,C,ns,rfl,_⟩:=h
  rfl
 ·obtain ⟨a,l,ts,C,ns,rfl,ha,tb,gc,h8,hl,hlt,hnl,q⟩:=h
  have S:=zbw
  have hu:=zci hr
  refine ⟨_,zad (zap (i:=2) S.nd rfl (Or.inl rfl) (zdA))
  (zad (zbi PassesOwn.never rfl (zaJ (pv 1)) (zas (i:=3) S.nd rfl (Or.inl rfl))
   (zaf (zbi PassesOwn.never rfl (zaJ (zau zaD (pv 0) (pv 3) (fun _ _=>rfl))) (zas (i:=4) S.nd rfl (Or.inl rfl))
    (zaf (zcP hu (pv 2) (zau zaB (pv 4) (zab) (fun _ _=>rfl)) (zbO) rfl)))))
  (zaf (zal (zak (call_sortedDI rfl) rfl T.n_sorted boot_sorted (zaa (pv 2) zae))))),?_⟩
  refine fun d nd => ?_
  have s1:Same H (upd H d (.dK [])):=Same.new nd
  refine ⟨_,rfl,_,rfl,⟨_,SqL.of (s1 _ _ hl)⟩,?_⟩
  refine zcr (zar K l _) (fun i σ Hx=>Same H Hx/\∃ kvs rs x3 x4,σ = [some (.ref a),some (.ref l),some (.ref d),x3,x4]/\Hx d=some (.dK kvs)/\kvs.map (·.1)=rs.map Sum.inl/\rs.Nodup/\kvs.length<=8 * i/\∀ n:Int,n∈rs ↔ ∃ t∈ns.take i,∃ p∈stp C t,p.2=n) ⟨s1,[],[],_,_,rfl,zac,rfl,List.nodup_nil,Nat.zero_le _,fun n=>by simp⟩ (fun i σ Hx _ h=>SqL.of (h.1 _ _ hl)) ?_ ?_
  ·rintro i x σ Hx hx ⟨sx,kvs,rs,x3,x4,rfl,hd,hk,rn,hkl,hm⟩
   rw [List.getElem?_map] at hx
   cases ht:ns[i]? with
   | none=>rw [ht] at hx; cases hx
   | some t =>
    rw [ht] at hx
    cases hx
    have hti:i < ns.length:=(List.getElem?_eq_some_iff.mp ht).1
    have t128:=hlt t (List.mem_of_getElem? ht)
    obtain ⟨qs,wss,e1,e2,e3⟩:=(tb.same sx).2 t t128
    have hwl:=e3.length
    have hw8:=zdr h8 t
    refine ⟨_,rfl,_,rfl,_,_,_,_,rfl,rfl,SqL.of (sx _ _ ha),zaH e1,_,rfl,⟨_,SqL.of e2⟩,?_⟩
    have ek:ns.take (i + 1)=ns.take i ++ [t]:=zaC ht
    refine zcr (zar K qs wss) (fun j σ Hy=>Same Hx (upd Hy d (.dK kvs))/\Same H Hy/\(∀ q o,q≠d->Hx q=some o->Hy q=some o)/\∃ kvs' rs' x4,σ = [some (.ref a),some (.ref l),some (.ref d),some (.int (t:Nat)),x4]/\Hy d=some (.dK kvs')/\kvs'.map (·.1)=rs'.map Sum.inl/\rs'.Nodup/\kvs'.length<=8 * i + j/\∀ n:Int,n∈rs' ↔ (∃ t∈ns.take i,∃ p∈stp C t,p.2=n)\/∃ p∈(stp C t).take j,p.2=n) ⟨?_,sx,fun _ _ _ e=>e,kvs,rs,_,rfl,hd,hk,rn,by omega,fun n=>by rw [hm]; simp⟩ (fun j σ Hy _ h=>SqL.of (h.2.2.1 _ _ (fun z=>by rw [z,hd] at e2; cases e2) e2)) ?_ ?_
    ·intro q o e
     by_cases z:q=d
     ·rw [z,zac,<- hd,<- z,e]
     ·rw [zah z]; exact e
    ·rintro j y σ Hy hy ⟨s0,sy,ky,kvs',rs',x4',rfl,hd',hk',rn',hkl',hm'⟩
     have hj:j < (stp C t).length:=by rw [<- hwl]; exact (List.getElem?_eq_some_iff.mp hy).1
     obtain ⟨qa,e4,e5⟩:=e3.get (List.getElem?_eq_getElem hj)
     rw [hy] at e4
     cases e4
     have e5':=ky _ _ (fun z=>by rw [z,hd] at e5; cases e5) e5
     refine ⟨_,rfl,_,rfl,_,_,_,_,rfl,rfl,SqT.of e5',at1,_,_,rfl,DPut.k (k:=Sum.inl _) hd' (Nat.lt_of_lt_of_le (by omega:kvs'.length < 2000) (by decide)),?_⟩
     refine ⟨?_,sy.put nd,fun q o z e=>(by rw [zah z]; exact ky q o z e),_,if (stp C t)[j].2∈rs' then rs' else rs' ++ [(stp C t)[j].2],_,rfl,zac,?_,?_,?_,?_⟩
     ·intro q o e
      by_cases z:q=d
      ·rw [z,zac,<- hd,<- z,e]
      ·rw [zah z,zah z]; exact ky q o z e
     ·rw [putK_keys,hk']
      have:(Sum.inl (stp C t)[j].2:Key)∈rs'.map Sum.inl ↔ (stp C t)[j].2∈rs':=by
       rw [List.mem_map]
       exact ⟨fun ⟨z,hz,e⟩=>by injection e with e; rwa [<- e],fun h=>⟨_,h,rfl⟩⟩
      by_cases z:(stp C t)[j].2∈rs'
      ·rw [if_pos (this.mpr z),if_pos z]
      ·rw [if_neg (fun h=>z (this.mp h)),if_neg z,List.map_append]
       rfl
     ·split
      ·exact rn'
      ·rename_i z
       refine List.nodup_append.mpr ⟨rn',by simp,fun u hu v hv e => ?_⟩
       rw [List.mem_singleton.mp hv] at e
       exact z (e ▸ hu)
     ·have:=zbW kvs' (Sum.inl (stp C t)[j].2:Key) (.bl true)
      omega
     ·intro n
      rw [List.take_succ_eq_append_getElem hj]
      have:n∈(if (stp C t)[j].2∈rs' then rs' else rs' ++ [(stp C t)[j].2]) ↔ n∈rs'\/(stp C t)[j].2=n:=by
       split
       ·rename_i z
        exact ⟨.inl,fun h=>h.elim id fun e=>e ▸ z⟩
       ·rw [List.mem_append,List.mem_singleton]
        exact ⟨fun h=>h.elim .inl fun e => .inr e.symm,fun h=>h.elim .inl fun e => .inr e.symm⟩
      rw [this,hm']
      constructor
      ·rintro ((h | ⟨p,hp,e⟩) | e)
       ·exact .inl h
       ·exact .inr ⟨p,List.mem_append_left _ hp,e⟩
       ·exact .inr ⟨_,List.mem_append_right _ (List.mem_singleton.mpr rfl),e⟩
      ·rintro (h | ⟨p,hp,e⟩)
       ·exact .inl (.inl h)
       ·rcases List.mem_append.mp hp with z | z
        ·exact .inl (.inr ⟨p,z,e⟩)
        ·rw [List.mem_singleton.mp z] at e
         exact .inr e
    ·rintro σ Hy ⟨s0,sy,ky,kvs',rs',x4',rfl,hd',hk',rn',hkl',hm'⟩
     refine ⟨sy,kvs',rs',_,_,rfl,hd',hk',rn',by omega,fun n => ?_⟩
     rw [hm',hwl,List.take_length,ek]
     constructor
     ·rintro (⟨t',ht',p,hp,e⟩ | ⟨p,hp,e⟩)
      ·exact ⟨t',List.mem_append_left _ ht',p,hp,e⟩
      ·exact ⟨t,List.mem_append_right _ (List.mem_singleton.mpr rfl),p,hp,e⟩
     ·rintro ⟨t',ht',p,hp,e⟩
      rcases List.mem_append.mp ht' with z | z
      ·exact .inl ⟨t',z,p,hp,e⟩
      ·rw [List.mem_singleton.mp z] at hp
       exact .inr ⟨p,hp,e⟩
  ·rintro σ Hx ⟨sx,kvs,rs,x3,x4,rfl,hd,hk,rn,hkl,hm⟩
   rw [List.length_map] at hkl hm
   rw [List.take_length] at hm
   have pm:=beh_keys gc hlt rn hm
   have hrl:rs.length<=128:=by
    rw [pm.length_eq,List.length_map]
    exact zf2 C ns
   refine ⟨_,rfl,d,kvs,rs,rfl,.inl hd,hk,by omega,fun p ns' np pp pw => ?_⟩
   have e:=zbr (pp.trans pm) pw (beh_sorted C ns)
   refine q p _ (sx.trans (Same.new np)) (sx.free np) ?_
   rw [zac,e,List.map_map]
   rfl
theorem zfm {C:Addr} {G:Addr->Prop} {H:Hp} {b l:Addr} {cs:Combs} {past:List Combs} (B:Bk C G H b l cs past):GC (srt cs)/\(srt cs).length<=8:=by
 have g:=B.good
 have p:=zds g.nd
 exact ⟨fun c hc=>(g.ok c (p.mem_iff.mp hc)).2,by rw [p.length_eq]; exact g.len⟩
noncomputable def sp_toend:Sp:=fun vs H Q _=>∃ (a:Addr) (ts:List V) (C:Combs) (m:Nat),vs = [.ref a]/\H a=some (.lst ts)/\TabR H ts C/\GC C/\C.length<=8/\tr (rowAt C m) 0=false/\m<=128/\∀ p k ws H',Same H H'->H' p=some (.lst ws)->RowsN H' ws C k->rowN C k = []->(∀ j,j < k->rowN C j ≠ [])->k<=m->Q (.ref p) H'
theorem zbe:FnScope ["table","rows"] ["table"] (defScope s_rows_to_the_end):=⟨rfl,rfl,rfl,by decide +kernel,rfl,by decide +kernel,by decide +kernel⟩
theorem ok_toend (D:DefAt K mg "rows_to_the_end" s_rows_to_the_end) (T:Bn mg) (C_shapes_behind:Callee P w K mg base "shapes_behind" 1 ["table","shapes"] sp_behind):Callee P w K mg base "rows_to_the_end" 2 ["table"] sp_toend:=by
 refine D.callee zbe (fun _ _ _ _ _ _=>ln1 fun _=>rfl) (fun vs H Q E h => ?_) (fun f cdv A outer s H vs Q E hr h => ?_)
 ·obtain ⟨a,ts,C,m,rfl,_⟩:=h
  rfl
 ·obtain ⟨a,ts,C,m,rfl,ha,tb,gc,h8,hz,hm,q⟩:=h
  have S:=zbe
  refine ⟨_,zad (zap (i:=1) S.nd rfl (Or.inl rfl) (zaP (zaa (zaP (zaa (zab) zae)) zae)))
  (zad (zcc PassesOwn.never (zaq zgx (zak zao rfl T.n_len PySem.boot_len (zaa (zau zaD (pv 1) (zdy zb1 (zab)) (fun _ _=>rfl)) zae)) (zab) (zat _))
   (zaf (za6 (zc5 PySem.F.plainAttrs_list PySem.F.slot_list_append PySem.F.type_list_append zaM (pv 1) (zaa (zaK C_shapes_behind (hr.mono (by decide)) rfl (zaa (pv 0) (zaa (zau zaD (pv 1) (zdy zb1 (zab)) (fun _ _=>rfl)) zae))) zae)))))
  (zaf (zal (pv 1)))),?_⟩
  refine ⟨bigr rfl,fun r0 nr0=>⟨bigr rfl,fun p np => ?_⟩⟩
  have s1:Same H (upd H r0 (.lst [.int 0])):=Same.new nr0
  have s2:Same (upd H r0 (.lst [.int 0])) (upd (upd H r0 (.lst [.int 0])) p (.lst [.ref r0])):=Same.new np
  have np0:H p=none:=s1.free np
  have rr:RowsN (upd (upd H r0 (.lst [.int 0])) p (.lst [.ref r0])) [.ref r0] C 0:=⟨rfl,fun i hi=>⟨r0,by rw [show i=0 by omega]; rfl,by rw [show i=0 by omega]; exact s2 _ _ zac⟩⟩
  refine ⟨fun k σ Hx=>∃ i ws,σ = [some (.ref a),some (.ref p)]/\Same H Hx/\Hx p=some (.lst ws)/\RowsN Hx ws C i/\(∀ j,j < i->rowN C j ≠ [])/\k=m - i,⟨_,0,_,rfl,s1.trans s2,zac,rr,fun j hj=>by omega,rfl⟩,?_⟩
  rintro k σ Hx ⟨i,ws,rfl,sx,hp,rx,hne,rfl⟩
  obtain ⟨ql,el1,el2⟩:=rx.2 i (Nat.le_refl _)
  have him:i<=m:=by
   cases i with
   | zero=>omega
   | succ i=>have:=zeO gc hz (hne i (by omega)); omega
  refine ⟨_,rfl,_,rfl,_,_,_,_,rfl,rfl,SqL.of hp,zdp rx.1 el1,_,_,rfl,.inl (SqL.of el2),_,_,rfl,rfl,_,rfl,?_⟩
  rw [List.length_map]
  by_cases e:rowN C i = []
  ·rw [e,decide_eq_false (show ¬ (0:Int) < (([]:List Nat).length:Nat) by decide)]
   refine iteF ?_
   exact ⟨_,rfl,q p i ws Hx sx hp rx e hne him⟩
  ·have hpos:0 < (rowN C i).length:=List.length_pos_iff.mpr e
   rw [decide_eq_true (show (0:Int) < ((rowN C i).length:Nat) by omega)]
   refine iteT ?_
   have hlt:=zeO gc hz e
   refine ⟨fun σ' H'=>∃ m',m' < m - i/\∃ i ws,σ' = [some (.ref a),some (.ref p)]/\Same H H'/\H' p=some (.lst ws)/\RowsN H' ws C i/\(∀ j,j < i->rowN C j ≠ [])/\m'=m - i,fun _ _ h=>h,?_⟩
   refine ⟨_,rfl,.inl ⟨rfl,_,SqL.of hp⟩,_,rfl,_,rfl,_,rfl,_,_,_,_,rfl,rfl,SqL.of hp,zdp rx.1 el1,?_⟩
   refine ⟨a,ql,ts,C,rowN C i,rfl,sx _ _ ha,tb.same sx,gc,h8,el2,(zdv C i).1,(zdv C i).2,fun p2 H2 s2 np2 hp2 => ?_⟩
   have hwl:=rx.1
   refine ⟨p,ws,_,rfl,rfl,s2 _ _ hp,Nat.lt_of_lt_of_le (by omega:ws.length < 1000) zaQ,?_⟩
   refine ⟨_,(by omega:m - (i + 1) < m - i),i + 1,_,rfl,(sx.trans s2).put np0,zac,(rx.same s2).snoc (s2 _ _ hp) hp2,fun j hj => ?_,rfl⟩
   by_cases ej:j=i
   ·rw [ej]; exact e
   ·exact hne j (by omega)
noncomputable def sp_fstrip:Sp:=fun vs H Q _=>∃ (t ls pl:Addr) (st n:Nat) (f:Nat->Nat) (ws:List V),vs = [.ref t]/\H t=some (.tup [.int (st:Nat),.ref ls,.ref pl])/\H ls=some (.lst ((List.range n).map fun j=>V.int (f j:Nat)))/\H pl=some (.lst ws)/\st < n/\n<=128 /\
 ∀ p H',Same H H'->H' p=some (.tup [.str (Str.ofString "filled"),.int (st:Nat),.int ((n - st:Nat):Int),.ref pl])->Q (.ref p) H'
theorem at3s {x y z:V}:atI [x,y,z] 0=some x/\atI [x,y,z] 1=some y/\atI [x,y,z] 2=some z:=⟨show atI _ ((0:Nat):Int)=_ from zaH rfl,show atI _ ((1:Nat):Int)=_ from zaH rfl,show atI _ ((2:Nat):Int)=_ from zaH rfl⟩
theorem zbC:FnScope ["walk","start"] ["walk"] (defScope s_filled_strip):=⟨rfl,rfl,rfl,by decide +kernel,rfl,by decide +kernel,by decide +kernel⟩
theorem ok_fstrip (D:DefAt K mg "filled_strip" s_filled_strip) (T:Bn mg):Callee P w K mg base "filled_strip" 1 ["walk"] sp_fstrip:=by
 refine D.callee zbC (fun _ _ _ _ _ _=>ln1 fun _=>rfl) (fun vs H Q E h => ?_) (fun f cdv A outer s H vs Q E hr h => ?_)
 ·obtain ⟨t,ls,pl,st,n,f,ws,rfl,_⟩:=h
  rfl
 ·obtain ⟨t,ls,pl,st,n,fs,ws,rfl,ht,hls,hpl,hst,hn,q⟩:=h
  have S:=zbC
  refine ⟨_,zad (zap (i:=1) S.nd rfl (Or.inl rfl) (zau zaB (pv 0) (zab) (fun _ _=>rfl)))
  (zaf (zal (zbA (zaa (zaR) (zaa (pv 1) (zaa (zaA zeV (zak zao rfl T.n_len PySem.boot_len (zaa (zau zaB (pv 0) (zab) (fun _ _=>rfl)) zae)) (pv 1)) (zaa (zau zaB (pv 0) (zab) (fun _ _=>rfl)) zae))))))),?_⟩
  refine ⟨_,rfl,_,_,_,_,rfl,rfl,SqT.of ht,at3s.1,?_⟩
  refine ⟨_,rfl,_,rfl,_,_,_,_,rfl,rfl,SqT.of ht,at3s.2.1,_,_,rfl,.inl (SqL.of hls),_,rfl,_,_,rfl,rfl,_,rfl,_,_,_,_,rfl,rfl,SqT.of ht,at3s.2.2,bigr rfl,fun p np => ?_⟩
  refine q p _ (Same.new np) ?_
  rw [zac,List.length_map,List.length_range]
  show some (HO.tup [V.str (Str.ofString "filled"),V.int (st:Nat),V.int (((n:Nat):Int) - ((st:Nat):Int)),V.ref pl])=_
  rw [show ((n:Nat):Int) - ((st:Nat):Int)=((n - st:Nat):Int) by omega]
noncomputable def StripD (C:Combs) (m start n:Nat):Prop:=nxtRow C (rowAt C m)=rowAt C m/\tr (rowAt C m) 0=true/\start < n/\n<=128/\wk C (rowAt C m) 0 n=wk C (rowAt C m) 0 start/\((List.range n).map (wk C (rowAt C m) 0)).Nodup
noncomputable def StripR (H:Hp) (t:Addr) (C:Combs):Prop :=
 (∃ m start n pl ws,StripD C m start n/\H t=some (.tup [.str (Str.ofString "filled"),.int (start:Nat),.int ((n - start:Nat):Int),.ref pl])/\H pl=some (.lst ws)/\LaysR H ws (wn C (rowAt C m) 0) n) \/
 (∃ m k pr ws,nxtRow C (rowAt C m)=rowAt C m/\tr (rowAt C m) 0=false/\rowN C k = []/\(∀ j,j < k->rowN C j ≠ [])/\k<=128/\H t=some (.tup [.str (Str.ofString "stuck"),.int (((k + 1:Nat):Int) - 2),.ref pr])/\H pr=some (.lst ws)/\RowsN H ws C k)
theorem StripR.same {H H':Hp} {t:Addr} {C:Combs} (h:StripR H t C) (s:Same H H'):StripR H' t C:=by
 rcases h with ⟨m,st,n,pl,ws,a,b,c,d⟩ | ⟨m,k,pr,ws,a,b,c,d,e,f,g,i⟩
 ·exact .inl ⟨m,st,n,pl,ws,a,s _ _ b,s _ _ c,d.mono fun _ _ z=>s _ _ z⟩
 ·exact .inr ⟨m,k,pr,ws,a,b,c,d,e,s _ _ f,s _ _ g,i.same s⟩
noncomputable def sp_strip (C:Addr):Sp:=fun vs H Q _=>∃ b l G cs past,vs = [.ref b]/\Bk C G H b l cs past/\∀ t H',Same H H'->StripR H' t (srt cs)->Q (.ref t) H'
theorem zb6:FnScope ["book","table","lasting","rows"] ["book"] (defScope s_fill_strip):=⟨rfl,rfl,rfl,by decide +kernel,rfl,by decide +kernel,by decide +kernel⟩
theorem ok_strip {C:Addr} (D:DefAt K mg "fill_strip" s_fill_strip) (T:Bn mg) (C_step_table:Callee1 P w K mg base "step_table" 4 ["book"] (sp_table C)) (C_rows_going_on:Callee P w K mg base "rows_going_on" 3 ["table"] sp_rows) (C_walk_round:Callee P w K mg base "walk_round" 2 ["table","lasting","shape"] sp_walk)
  (C_filled_strip:Callee P w K mg base "filled_strip" 1 ["walk"] sp_fstrip) (C_rows_to_the_end:Callee P w K mg base "rows_to_the_end" 2 ["table"] sp_toend):Callee1 P w K mg base "fill_strip" 5 ["book"] (sp_strip C):=by
 refine D.callee1 zb6 (fun _ _ _ _ _ _=>ln1 fun _=>rfl) (fun vs H Q E h => ?_) (fun f cdv A outer s H vs Q E hr h => ?_)
 ·obtain ⟨b,l,G,cs,past,rfl,_⟩:=h
  rfl
 ·obtain ⟨b,l,G,cs,past,rfl,B,q⟩:=h
  have S:=zb6
  have hu:=zci hr
  obtain ⟨gc,h8⟩:=zfm B
  refine ⟨_,zad (zap (i:=1) S.nd rfl (Or.inl rfl) (zfD C_step_table (hr.mono (by decide)) (by first | exact pass_try | exact zc6 | exact zbk) rfl (zaa (pv 0) zae)))
  (zad (zap (i:=2) S.nd rfl (Or.inl rfl) (zau zaD (zaK C_rows_going_on (hr.mono (by decide)) rfl (zaa (pv 1) zae)) (zdy zb1 (zab)) (fun _ _=>rfl)))
  (zad (zaF (zbh (zau zaD (pv 2) (zab) (fun _ _=>rfl)))
   (zaf (zal (zaK C_filled_strip (hr.mono (by decide)) rfl (zaa (zaK C_walk_round (hr.mono (by decide)) rfl (zaa (pv 1) (zaa (pv 2) (zaa (zab) zae)))) zae))))
   (zan))
  (zad (zap (i:=3) S.nd rfl (Or.inl rfl) (zaK C_rows_to_the_end (hr.mono (by decide)) rfl (zaa (pv 1) zae)))
  (zaf (zal (zbA (zaa (zaR) (zaa (zaA zeV (zak zao rfl T.n_len PySem.boot_len (zaa (pv 3) zae)) (zab)) (zaa (pv 3) zae))))))))),?_⟩
  refine ⟨_,rfl,b,l,G,cs,past,rfl,B,fun a H1 ts s1 na ha tb => ?_⟩
  refine ⟨_,rfl,a,ts,srt cs,rfl,ha,tb,gc,h8,fun p H2 ws m s2 np hp rr hfix hm => ?_⟩
  obtain ⟨ql,el1,el2⟩:=rr.2 m (Nat.le_refl _)
  refine ⟨_,rfl,_,_,_,_,rfl,rfl,SqL.of hp,zdp rr.1 el1,?_⟩
  refine ⟨_,rfl,_,_,_,_,rfl,rfl,SqL.of el2,zev (t:=0) (by decide) (by rw [zaY]; decide),_,rfl,?_⟩
  show if tr (rowAt (srt cs) m) 0=true then _ else _
  refine ite2 (fun ht => ?_) (fun ht => ?_)
  ·refine ⟨_,rfl,_,rfl,a,ql,ts,srt cs,rowAt (srt cs) m,0,rfl,s2 _ _ ha,tb.same s2,gc,h8,el2,zaY _ _,hfix,by decide,ht,fun t ls pl st n wl H3 s3 hst hn hw nd ht3 hls hpl lr => ?_⟩
   refine ⟨t,ls,pl,st,n,_,wl,rfl,ht3,hls,hpl,hst,hn,fun p4 H4 s4 hp4 => ?_⟩
   exact q p4 H4 (((s1.trans s2).trans s3).trans s4) (.inl ⟨m,st,n,pl,wl,⟨hfix,ht,hst,hn,hw,nd⟩,hp4,s4 _ _ hpl,lr.mono fun _ _ e=>s4 _ _ e⟩)
  ·have ht:tr (rowAt (srt cs) m) 0=false:=by simpa using ht
   refine ⟨_,rfl,a,ts,srt cs,m,rfl,s2 _ _ ha,tb.same s2,gc,h8,ht,hm,fun p3 k wr H3 s3 hp3 rn e1 e2 e3 => ?_⟩
   refine ⟨_,rfl,_,_,rfl,.inl (SqL.of hp3),_,_,rfl,rfl,_,rfl,bigr rfl,fun t nt => ?_⟩
   have s4:Same H3 (upd H3 t (.tup [.str (Str.ofString "stuck"),.int (((wr.length:Nat):Int) - 2),.ref p3])):=Same.new nt
   refine q t _ (((s1.trans s2).trans s3).trans s4) (.inr ⟨m,k,p3,wr,hfix,ht,e1,e2,by omega,?_,s4 _ _ hp3,rn.same s4⟩)
   rw [zac,rn.1]
noncomputable def posV (v:V):Bool:=match v with
 | .int t=>decide (0 < t)
 | _=>false
noncomputable def decV (v:V):V:=match v with
 | .int t => .int (t - 1)
 | _ => .non
noncomputable def sp_after (K:W.Frag):Sp:=fun vs H Q _=>∃ (a t:Addr) (ah ts:List Int),vs = [.ref a,.ref t]/\SqT K H a (ah.map V.int)/\H t=some (.lst (ts.map V.int))/\ah.Nodup/\(∀ d∈ah,0<=d/\d<=6)/\ts.Nodup/\(∀ d∈ts,0<=d/\d<=7) /\
 (if meets ah ts=true then Q .non H else ∀ p H',Same H H'->H p=none->H' p=some (.tup ((afterOf ah ts).map V.int))->Q (.ref p) H')
theorem zeN:FnScope ["_law_ahead","_law_teeth_here","_law_t"] ["_law_ahead","_law_teeth_here"] (defScope s_after):=⟨rfl,rfl,rfl,by decide +kernel,rfl,by decide +kernel,by decide +kernel⟩
theorem zeY (D:DefAt K mg "_law_after" s_after) (T:Bn mg):Callee P w K mg base "_law_after" 1 ["_law_ahead","_law_teeth_here"] (sp_after K):=by
 refine D.callee zeN (fun _ _ _ _ _ _=>ln2 fun _ _=>rfl) (fun vs H Q E h => ?_) (fun f cdv A outer s H vs Q E hr h => ?_)
 ·obtain ⟨a,t,ah,ts,rfl,_⟩:=h
  rfl
 ·obtain ⟨a,t,ah,ts,rfl,ha,ht,an,ar,tn,tr,q⟩:=h
  have S:=zeN
  have hal:ah.length<=8:=zcJ an fun d hd=>by have:=ar d hd; omega
  have htl:ts.length<=8:=zcJ tn tr
  refine ⟨_,zad (zbi PassesOwn.never rfl (zaJ (pv 1)) (zas (i:=2) S.nd rfl (Or.inl rfl))
   (zaf (zaF (zaq zcT (pv 2) (pv 0) (by with_unfolding_all rfl))
    (zaf (zal (zfA)))
    (zan))))
  (zaf (zal (zaZ call_tuple_of rfl T.n_tuple boot_tuple (zaa (za7 (own := ["_law_d"]) (caps := []) rfl ⟨rfl,rfl,rfl,rfl,trivial⟩ (zaJ (zak zcz rfl T.n_sorted boot_sorted (zaa (zaA zeX (zaZ zbK rfl T.n_list boot_list (zaa (pv 0) zae)) (pv 1)) zae))) (fun _ _ _ _ _ _=>zas (i:=0) (za3 (by decide +kernel)) rfl (Or.inl rfl)) (fun _ _ _ _ _ _=>zdw (zaq zgx (pv 0) (zab) (zat _))) (fun _ _ _ _ _ _=>zaA zeV (pv 0) (zab))) zae)))),?_⟩
  refine ⟨_,rfl,_,rfl,⟨_,SqL.of ht⟩,?_⟩
  refine zcr (zar K t (ts.map V.int)) (fun i σ Hx=>Hx=H/\meets ah (ts.take i)=false/\∃ x2,σ = [some (.ref a),some (.ref t),x2]) ⟨rfl,rfl,_,rfl⟩ (fun i σ Hx _ h=>by rw [h.1]; exact SqL.of ht) ?_ ?_
  ·rintro i x σ Hx hx ⟨rfl,hm,x2,rfl⟩
   rw [List.getElem?_map] at hx
   cases hk:ts[i]? with
   | none=>rw [hk] at hx; cases hx
   | some y =>
    rw [hk] at hx
    cases hx
    refine ⟨_,rfl,_,rfl,_,_,rfl,.inr ha,rfl,zf8 ah,_,rfl,?_⟩
    rw [if_neg (by decide),zes]
    refine ite2 (fun hc => ?_) (fun hc => ?_)
    ·have hc:y∈ah:=by simpa using hc
     have:meets ah ts=true:=by
      unfold meets
      exact List.any_eq_true.mpr ⟨y,List.mem_of_getElem? hk,decide_eq_true hc⟩
     rw [if_pos this] at q
     exact q
    ·have hc:y ∉ ah:=by simpa using hc
     refine ⟨rfl,?_,_,rfl⟩
     rw [zaC hk]
     rw [meets_false] at hm ⊢
     intro z hz
     rcases List.mem_append.mp hz with h | h
     ·exact hm z h
     ·rw [List.mem_singleton.mp h]; exact hc
  ·rintro σ Hx ⟨rfl,hm,x2,rfl⟩
   rw [List.length_map,List.take_length] at hm
   rw [if_neg (by rw [hm]; decide)] at q
   refine ⟨_,rfl,a,_,rfl,.inr ha,fun p np=>⟨_,rfl,p,t,_,ts.map V.int,rfl,rfl,zac,?_,?_,fun p2 np2 => ?_⟩⟩
   ·rw [zah (zai ht np)]; exact ht
   ·rw [List.length_map,List.length_map]
    exact Nat.le_of_lt (Nat.lt_of_lt_of_le (by omega:ah.length + ts.length < 1000) zaQ)
   refine ⟨p2,ah ++ ts,rfl,SqL.of (by rw [List.map_append]; exact zac),by rw [List.length_append]; omega,fun p3 ns np3 hp hs => ?_⟩
   have hc:=after_canon an ar tn tr hm hp hs
   have s1:Same Hx (upd Hx p (.lst (ah.map V.int))):=Same.new np
   have s2:=s1.trans (Same.new (o := .lst (ah.map V.int ++ ts.map V.int)) np2)
   have s3:=s2.trans (Same.new (o := .lst (ns.map V.int)) np3)
   refine ⟨_,rfl,⟨_,SqL.of zac⟩,fun Dc hD => ?_⟩
   have hnl:ns.length<=1000:=by
    have:=hp.length_eq
    rw [List.length_append] at this
    omega
   refine zdn (capv := []) (L:=ns.map V.int) (by rfl) (zar K p3 (ns.map V.int)) (by rw [List.length_map]; exact big hnl) hD (fun H' s'=>SqL.of (s' _ _ zac)) posV decV ?_ ?_ ?_
   ·intro v hv H' R s' h
    obtain ⟨d,hd,rfl⟩:=List.mem_map.mp hv
    exact ⟨_,rfl,_,_,rfl,rfl,_,rfl,h H' (Same.refl _)⟩
   ·intro v hv _ H' R s' h
    obtain ⟨d,hd,rfl⟩:=List.mem_map.mp hv
    exact ⟨_,rfl,_,_,rfl,rfl,h H' (Same.refl _)⟩
   ·intro H7 s7 e7
    have ets:(((ns.map V.int).filter posV).map decV)=(afterOf ah ts).map V.int:=by
     unfold afterOf
     rw [<- hc,List.filter_map,List.map_map,List.map_map]
     rfl
    rw [ets] at e7
    have s07:=s3.trans s7
    exact ⟨_,_,rfl,.inl ⟨SqL.of e7,fun l nl=>q l _ (s07.put (s07.free nl)) (s07.free nl) zac⟩⟩
noncomputable def sp_goes (K:W.Frag):Sp:=fun vs H Q _=>∃ (k a:Addr) (ws:List V) (ks:Combs) (ah:List Int),vs = [.ref k,.ref a]/\H k=some (.lst ws)/\KindsL (fun _=>True) H ws ks/\ks.length<=100/\(∀ c∈ks,GT c.2)/\SqT K H a (ah.map V.int)/\ah.Nodup/\(∀ d∈ah,0<=d/\d<=6) /\
 ∀ p H' vs',Same H H'->H p=none->H' p=some (.lst vs')->GoesR H' vs' (goesOf ks ah)->Q (.ref p) H'
theorem zfs:FnScope ["_law_kinds","_law_ahead","_law_found","_law_word_here","_law_teeth_here","_law_further"] ["_law_kinds","_law_ahead"] (defScope s_goes):=⟨rfl,rfl,rfl,by decide +kernel,rfl,by decide +kernel,by decide +kernel⟩
theorem ok_goes (D:DefAt K mg "_law_goes" s_goes) (T:Bn mg) (C_after:Callee P w K mg base "_law_after" 1 ["_law_ahead","_law_teeth_here"] (sp_after K)):Callee P w K mg base "_law_goes" 2 ["_law_kinds","_law_ahead"] (sp_goes K):=by
 refine D.callee zfs (fun _ _ _ _ _ _=>ln2 fun _ _=>rfl) (fun vs H Q E h => ?_) (fun f cdv A outer s H vs Q E hr h => ?_)
 ·obtain ⟨k,a,ws,ks,ah,rfl,_⟩:=h
  rfl
 ·obtain ⟨k,a,ws,ks,ah,rfl,hk,kr,hkl,hg,ha,an,ar,q⟩:=h
  have S:=zfs
  have hlen:=kr.length
  refine ⟨_,zad (zaF (zaq zcT (zab) (pv 1) (by with_unfolding_all rfl))
   (zaf (zal (zaP (zaa (zbA (zaa (zaR) (zaa (zaK C_after (hr.mono (by decide)) rfl (zaa (pv 1) (zaa (zaP (zae)) zae))) zae))) zae))))
   (zan))
  (zad (zap (i:=2) S.nd rfl (Or.inl rfl) (zaP (zae)))
  (zad (zbi PassesOwn.never rfl (zaJ (pv 0)) (zfz rfl (zaV (zas (i:=3) S.nd rfl (Or.inl rfl)) (zaV (zas (i:=4) S.nd rfl (Or.inl rfl)) (zcn))))
   (zad (zap (i:=5) S.nd rfl (Or.inl rfl) (zaK C_after (hr.mono (by decide)) rfl (zaa (pv 1) (zaa (pv 4) zae))))
   (zaf (zaF (zaq op_notN (pv 5) (zfA) (zat _))
    (zaf (za6 (zc5 PySem.F.plainAttrs_list PySem.F.slot_list_append PySem.F.type_list_append zaM (pv 2) (zaa (zbA (zaa (pv 3) (zaa (pv 5) zae))) zae))))
    (zan)))))
  (zaf (zal (pv 2))))),?_⟩
  refine ⟨_,rfl,_,_,rfl,.inr ha,rfl,zf8 ah,_,rfl,?_⟩
  rw [if_neg (by decide),zes]
  refine ite2 (fun hc => ?_) (fun hc => ?_)
  ·have hc:(0:Int)∈ah:=by simpa using hc
   refine ⟨_,rfl,bigr rfl,fun p0 np0=>⟨a,p0,ah,[],rfl,(Same.new np0).tup ha,zac,an,ar,List.nodup_nil,by simp,?_⟩⟩
   rw [if_neg (show ¬ meets ah []=true from Bool.false_ne_true)]
   intro p1 H1 s1 n1 e1
   refine ⟨bigr rfl,fun p2 np2=>⟨bigr rfl,fun p3 np3 => ?_⟩⟩
   have s01:Same H H1:=(Same.new np0).trans s1
   have s2:=s01.trans (Same.new (o := .tup [.str "",.ref p1]) np2)
   refine q p3 _ [.ref p2] (s2.trans (Same.new np3)) (s2.free np3) zac ?_
   rw [goes_in hc]
   have e2:upd H1 p2 (.tup [.str "",.ref p1]) p2=some (.tup [.str "",.ref p1]):=zac
   have e1':upd H1 p2 (.tup [.str "",.ref p1]) p1=some (.tup ((afterOf ah []).map V.int)):=by rw [zah (zai e1 np2)]; exact e1
   refine ⟨⟨p2,p1,rfl,?_,?_⟩,trivial⟩
   ·rw [zah (zai e2 np3)]; exact e2
   ·rw [zah (zai e1' np3)]; exact e1'
  ·have hc:(0:Int) ∉ ah:=by simpa using hc
   refine ⟨bigr rfl,fun pf npf => ?_⟩
   have s1:Same H (upd H pf (.lst [])):=Same.new npf
   refine ⟨_,rfl,_,rfl,⟨_,SqL.of (s1 _ _ hk)⟩,?_⟩
   refine zcr (zar K k ws) (fun i σ Hx=>Same H Hx/\∃ vs x3 x4 x5,σ = [some (.ref k),some (.ref a),some (.ref pf),x3,x4,x5]/\Hx pf=some (.lst vs)/\vs.length<=i/\GoesR Hx vs (goesOf (ks.take i) ah)) ⟨s1,[],_,_,_,rfl,zac,Nat.le_refl _,?_⟩ (fun i σ Hx _ h=>SqL.of (h.1 _ _ hk)) ?_ ?_
   ·rw [List.take_zero,goes_nil hc]
    trivial
   ·rintro i x σ Hx hx ⟨sx,vs,x3,x4,x5,rfl,hpf,hvl,hgr⟩
    obtain ⟨c,qa,t,hkc,rfl,hq,ht⟩:=(kr.same sx).get hx
    have hi:i < ks.length:=(List.getElem?_eq_some_iff.mp hkc).1
    have gc:=hg c (List.mem_of_getElem? hkc)
    refine ⟨qa,_,rfl,SqL.of hq,rfl,_,_,rfl,_,_,rfl,rfl,?_⟩
    refine ⟨_,rfl,_,rfl,a,t,ah,c.2,rfl,sx.tup ha,ht,an,ar,zaW (zfe gc),zff gc,?_⟩
    by_cases hm:meets ah c.2=true
    ·rw [if_pos hm]
     refine ⟨_,rfl,rfl,_,rfl,iteF ?_⟩
     refine ⟨sx,vs,_,_,_,rfl,hpf,by omega,?_⟩
     rw [zaC hkc,zd6 hc,if_pos hm,List.append_nil]
     exact hgr
    ·rw [if_neg hm]
     intro p1 H1 s1' n1 e1
     refine ⟨_,rfl,rfl,_,rfl,iteT ?_⟩
     have sx1:=s1'
     refine ⟨_,rfl,.inl ⟨rfl,_,SqL.of (s1' _ _ hpf)⟩,_,rfl,_,rfl,bigr rfl,fun p2 np2 => ?_⟩
     have s2:Same Hx (upd H1 p2 (.tup [.str c.1,.ref p1])):=s1'.trans (Same.new np2)
     have e2:upd H1 p2 (.tup [.str c.1,.ref p1]) p2=some (.tup [.str c.1,.ref p1]):=zac
     have e1':upd H1 p2 (.tup [.str c.1,.ref p1]) p1=some (.tup ((afterOf ah c.2).map V.int)):=by rw [zah (zai e1 np2)]; exact e1
     have hpf2:=s2 _ _ hpf
     refine ⟨pf,_,_,rfl,rfl,hpf2,Nat.lt_of_lt_of_le (by omega:vs.length < 1000) zaQ,?_⟩
     have tn:∀ q' xs,upd H1 p2 (.tup [.str c.1,.ref p1]) q'=some (.tup xs)->upd (upd H1 p2 (.tup [.str c.1,.ref p1])) pf (.lst (vs ++ [.ref p2])) q'=some (.tup xs):=fun q' xs h=>by
      have:q'≠pf:=fun z=>by rw [z,hpf2] at h; cases h
      rw [zah this]; exact h
     refine ⟨(sx.trans s2).put npf,_,_,_,_,rfl,zac,(by rw [List.length_append,List.length_singleton]; omega),?_⟩
     rw [zaC hkc,zd6 hc,if_neg hm]
     exact GoesR.snoc (s:=(c.1,afterOf ah c.2)) (tn _ _ e2) (tn _ _ e1') (hgr.mono fun q' xs h=>tn _ _ (s2 _ _ h))
   ·rintro σ Hx ⟨sx,vs,x3,x4,x5,rfl,hpf,hvl,hgr⟩
    rw [hlen,List.take_length] at hgr
    exact ⟨_,rfl,q pf Hx vs sx npf hpf hgr⟩
theorem zd7 {ks:Combs} (h8:ks.length<=8) (s:Nat) (hs:s < 128) (g:GC ks):(goesOf ks (aheadOf (s:Int))).length<=8:=by
 rw [<- List.length_map (f:=fun p:Str×List Int=>(p.1,worth p.2)),zbn hs g]
 exact zdr h8 s
theorem zgk {ks:List (Str×List Int)} (nd:(ks.map (·.1)).Nodup) {i:Nat} {k:Str×List Int} (h:ks[i]?=some k):cGet (ks.take i) k.1=none:=by
 rw [get_none]
 intro hm
 obtain ⟨c,hc,e⟩:=List.mem_map.mp hm
 obtain ⟨j,hj,ej⟩:=List.getElem_of_mem hc
 have hi:=(List.getElem?_eq_some_iff.mp h).1
 have hj':j < i:=by
  have:=hj
  rw [List.length_take] at this
  omega
 have e1:(ks.map (·.1))[j]?=some k.1:=by
  rw [List.getElem?_map,List.getElem?_eq_getElem (by omega)]
  rw [List.getElem_take] at ej
  rw [ej]
  exact congrArg some e
 have e2:(ks.map (·.1))[i]?=some k.1:=by rw [List.getElem?_map,h]; rfl
 have:=(List.getElem?_inj (by rw [List.length_map]; omega) nd).mp (e1.trans e2.symm)
 omega
noncomputable def sp_mkbook (C:Addr):Sp:=fun vs H Q _=>∃ (a:Addr) (ws:List V) (ks:List (Str×List Int)),vs = [.ref a]/\H a=some (.lst ws)/\Drawn (fun _=>True) H ws ks/\ks.length<=8 /\
 ∀ b l G past H',Same H H'->H b=none->H l=none->(∀ x,G x->H x=none)->Bk C G H' b l ks past->past.length=ks.length->Q (.ref b) H'
theorem zft:FnScope ["_law_kinds","_law_book_here","_law_word_here","_law_teeth_here"] ["_law_kinds"] (defScope s_book):=⟨rfl,rfl,rfl,by decide +kernel,rfl,by decide +kernel,by decide +kernel⟩
theorem ok_mkbook {ea:Nat->Addr} {C:Addr} (D:DefAt K mg "_law_book" s_book) (T:Bn mg) (BA:BookAt K C) (C_Book:Maker P w K mg base "Book" C CX0 1 ["self"] (sp_init C)) (M_put:Method P w K mg base C "put" (CX1 P w) 3 ["self","name","teeth"] (sp_put (K:=K) ea C)):Callee P w K mg base "_law_book" 4 ["_law_kinds"] (sp_mkbook C):=by
 refine D.callee zft (fun _ _ _ _ _ _=>ln1 fun _=>rfl) (fun vs H Q E h => ?_) (fun f cdv A outer s H vs Q E hr h => ?_)
 ·obtain ⟨a,ws,ks,rfl,_⟩:=h
  rfl
 ·obtain ⟨a,ws,ks,rfl,ha,dr,hk8,q⟩:=h
  have S:=zft
  have hu:=zci hr
  have B_cls:=BA.cls
  have hlen:=dr.rows.length
  refine ⟨_,zad (zap (i:=1) S.nd rfl (Or.inl rfl) (pe_mk0 C_Book (hr.mono (by decide)) (by first | exact zdY | exact pass_try | exact zc6 | exact zbk) rfl))
  (zad (zbi PassesOwn.never rfl (zaJ (pv 0)) (zfz rfl (zaV (zas (i:=2) S.nd rfl (Or.inl rfl)) (zaV (zas (i:=3) S.nd rfl (Or.inl rfl)) (zcn))))
   (zaf (za6 (zfB (pv 1) B_cls M_put (hr.mono (by decide)) (by first | exact zdY | exact pass_try | exact zc6 | exact zbk) (zaa (pv 2) (zaa (zaZ zbK rfl T.n_list boot_list (zaa (pv 3) zae)) zae))))))
  (zaf (zal (pv 1)))),?_⟩
  refine fun b dx nb ndx ndb=>⟨b,dx,rfl,zac,fun H1 l d m nl nd B=>⟨rfl,?_⟩⟩
  have hlb:l≠b:=fun z=>by rw [z,zac] at nl; cases nl
  have nl0:H l=none:=by
   rw [zah hlb] at nl
   by_cases z:l=dx
   ·rw [z]; exact ndx
   ·rw [zah z] at nl; exact nl
  have hdb:d≠b:=fun z=>by rw [z,zac] at nd; cases nd
  have nd0:H d=none:=by
   rw [zah hdb] at nd
   by_cases z:d=dx
   ·rw [z]; exact ndx
   ·rw [zah z] at nd; exact nd
  have s1:Same H H1:=fun x o e=>m.keep x o (by rw [zah (zai e nb),zah (zai e ndx)]; exact e) (zai e nb) (zai e nb)
  refine ⟨_,rfl,_,rfl,⟨_,SqL.of (s1 _ _ ha)⟩,?_⟩
  refine zcr (zar K a ws) (fun i σ H2=>Same H H2/\∃ G past x2 x3,σ = [some (.ref a),some (.ref b),x2,x3]/\Bk C G H2 b l (ks.take i) past/\past.length=i/\∀ x,G x->H x=none) ⟨s1,_,[],_,_,rfl,B,rfl,fun x g=>by rw [show x=d from g]; exact nd0⟩ (fun i σ H2 _ h=>SqL.of (h.1 _ _ ha)) ?_ ?_
  ·rintro i x σ H2 hx ⟨s2,G,past,x2,x3,rfl,B2,hp,hG⟩
   obtain ⟨k,qa,t,hk,rfl,hq,ht⟩:=(dr.same s2).rows.get hx
   have hi:i < ks.length:=(List.getElem?_eq_some_iff.mp hk).1
   obtain ⟨hkn,hkg⟩:=dr.good k (List.mem_of_getElem? hk)
   obtain ⟨dx2,d2,hb2,_⟩:=id B2.ins
   refine ⟨qa,_,rfl,SqL.of hq,rfl,_,_,rfl,_,_,rfl,rfl,?_⟩
   refine ⟨_,rfl,b,dx2,_,rfl,hb2,rfl,_,rfl,_,rfl,t,_,rfl,.inl (SqL.of ht),fun p np => ?_⟩
   have s3:Same H2 (upd H2 p (.lst (k.2.map V.int))):=Same.new np
   refine ⟨b,l,G,_,past,k.1,p,k.2,rfl,B2.same s3,SqL.of zac,?_,?_,?_⟩
   ·exact big (by have:=name_len hkn; omega)
   ·have:=zgl hkg; omega
   have hlt:(ks.take i).length=i:=by rw [List.length_take]; omega
   have e:putD (ks.take i) past k.1 k.2 = .ok (ks.take (i + 1)):=by
    unfold putD full
    rw [if_neg (by rw [hkn]; decide),if_neg (by rw [gt_teeth hkg]; decide),zgk dr.nd hk,if_neg (by simp),if_neg (by omega),if_neg (by omega),zfw (zgk dr.nd hk),gt_eq hkg,zaC hk]
   rw [e]
   intro H4 G4 m4 B4
   refine ⟨fun x o e'=>m4.keep x o (s3 _ _ (s2 _ _ e')) (zai e' nb) (zai e' nl0),G4,_,_,_,rfl,B4,by rw [List.length_append,List.length_singleton,hp],fun x g => ?_⟩
   rcases m4.new x g with g | g
   ·exact hG x g
   ·exact (s2.trans s3).free g
  ·rintro σ H2 ⟨s2,G,past,x2,x3,rfl,B2,hp,hG⟩
   rw [List.take_of_length_le (by omega)] at B2
   exact ⟨_,rfl,q b l G past H2 s2 nb nl0 hG B2 (by omega)⟩
noncomputable def LeftR (H:Hp) (ws:List V) (ls:List Nat):Prop:=Paired (fun (s:Nat) (v:V)=>s < 128/\∃ q,v = .ref q/\H q=some (.tup ((aheadOf (s:Int)).map V.int))) ls ws
theorem LeftR.mono {H H':Hp} {ws:List V} {ls:List Nat} (r:LeftR H ws ls) (m:∀ q xs,H q=some (.tup xs)->H' q=some (.tup xs)):LeftR H' ws ls:=Paired.mapP r fun _ _ ⟨a,q,b,c⟩=>⟨a,q,b,m _ _ c⟩
noncomputable def intTup (ns:List Int):PyData := .tuple (ns.map PyData.int)
theorem LeftR.vd {K:W.Frag} {H:Hp} {ws:List V} {ls:List Nat} (r:LeftR H ws ls):VDs K H ws (ls.map fun (s:Nat)=>intTup (aheadOf (s:Int))):=by
 induction r with
 | nil=>exact .nil
 | cons h _ ih =>
  obtain ⟨_,q,rfl,e⟩:=h
  exact .cons (.tup (SqT.of e) (VDs.map fun u _ => .int u)) ih
theorem shaped_tups (ls:List (List Int)):SeqAt.shaped (.list (ls.map intTup))=true:=by
 have h0:∀ a:List Int,PyData.canLayAll0 (a.map PyData.int)=true/\PyData.depthAll (a.map PyData.int)=0:=by
  intro a
  induction a with
  | nil=>exact ⟨rfl,rfl⟩
  | cons x a ih=>rw [List.map_cons,PyData.canLayAll0,PyData.depthAll,ih.1,ih.2]; exact ⟨rfl,rfl⟩
 have h1:∀ ls:List (List Int),PyData.canLayAll0 (ls.map intTup)=true/\PyData.depthAll (ls.map intTup)<=1:=by
  intro ls
  induction ls with
  | nil=>exact ⟨rfl,Nat.zero_le _⟩
  | cons x ls ih =>
   rw [List.map_cons,PyData.canLayAll0,PyData.depthAll]
   unfold intTup
   refine ⟨?_,?_⟩
   ·rw [show PyData.canLayAll0 (List.map (fun ns:List Int=>PyData.tuple (ns.map PyData.int)) ls)=true from ih.1]
    simp [PyData.canLay0,(h0 x).1]
   ·have:=ih.2
    unfold intTup at this
    simp only [PyData.depth,(h0 x).2]
    omega
 have:=h1 ls
 have h2:PyData.depth (.list (ls.map intTup))<=64:=by
  rw [PyData.depth]
  omega
 have h3:PyData.canLay0 (.list (ls.map intTup))=true:=by
  simp [PyData.canLay0,this.1]
 unfold SeqAt.shaped
 rw [h3,decide_eq_true h2]
 rfl
noncomputable def sp_graph:Sp:=fun vs H Q _=>∃ (k b:Addr) (ws:List V) (ks:Combs) (s0:Nat),vs = [.ref k,.ref b]/\H k=some (.lst ws)/\KindsL (fun _=>True) H ws ks/\ks.length<=8/\GC ks/\s0 < 128/\H b=some (.tup ((aheadOf (s0:Int)).map V.int))/\∀ p kvs L H',Same H H'->H p=none->H' p=some (.dT kvs)->GrL H' kvs ks L->L.Nodup->ClsS ks L->s0∈L->Q (.ref p) H'
theorem zeL:FnScope ["_law_kinds","_law_begin","_law_graph_here","_law_left","_law_ahead","_law_word_here","_law_further"] ["_law_kinds","_law_begin"] (defScope s_graph):=⟨rfl,rfl,rfl,by decide +kernel,rfl,by decide +kernel,by decide +kernel⟩
theorem ok_graph (D:DefAt K mg "_law_graph" s_graph) (T:Bn mg) (C_goes:Callee P w K mg base "_law_goes" 2 ["_law_kinds","_law_ahead"] (sp_goes K)):Callee P w K mg base "_law_graph" 3 ["_law_kinds","_law_begin"] sp_graph:=by
 refine D.callee zeL (fun _ _ _ _ _ _=>ln2 fun _ _=>rfl) (fun vs H Q E h => ?_) (fun f cdv A outer s H vs Q E hr h => ?_)
 ·obtain ⟨k,b,ws,ks,s0,rfl,_⟩:=h
  rfl
 ·obtain ⟨k,b,ws,ks,s0,rfl,hk,kr,h8,gc,hs0,hb,q⟩:=h
  have S:=zeL
  have hu:=zci hr
  refine ⟨_,zad (zap (i:=2) S.nd rfl (Or.inl rfl) (zdz))
  (zad (zap (i:=3) S.nd rfl (Or.inl rfl) (zaP (zaa (pv 1) zae)))
  (zad (zcc PassesOwn.never (zaq (zeW hr.units) (pv 3) (zaP (zae)) (zat _))
   (zad (zap (i:=4) S.nd rfl (Or.inl rfl) (pe_bm0 PySem.F.plainAttrs_list PySem.F.slot_list_pop PySem.F.type_list_pop mt_pop (pv 3)))
   (zaf (zaF (zdX (zcd hu (pv 4) (pv 2)))
    (zad (zcP hu (pv 2) (pv 4) (zaK C_goes (hr.mono (by decide)) rfl (zaa (pv 0) (zaa (pv 4) zae))) rfl)
    (zaf (zbi PassesOwn.never rfl (zaJ (zdB hu (pv 2) (pv 4) (fun _ _=>rfl))) (zfy rfl (zaV (zas (i:=5) S.nd rfl (Or.inl rfl)) (zaV (zas (i:=6) S.nd rfl (Or.inl rfl)) (zcn))))
     (zaf (za6 (zc5 PySem.F.plainAttrs_list PySem.F.slot_list_append PySem.F.type_list_append zaM (pv 3) (zaa (pv 6) zae)))))))
    (zan)))))
  (zaf (zal (pv 2))))),?_⟩
  refine fun g ng=>⟨_,rfl,bigr rfl,fun l nl => ?_⟩
  have s1:Same H (upd H g (.dT [])):=Same.new ng
  have nl0:H l=none:=s1.free nl
  have hgl:g≠l:=fun z=>by rw [<- z,zac] at nl; cases nl
  have s2:Same H (upd (upd H g (.dT [])) l (.lst [.ref b])):=s1.trans (Same.new nl)
  refine ⟨fun m σ Hx=>∃ kvs L wl ls x4 x5 x6,σ = [some (.ref k),some (.ref b),some (.ref g),some (.ref l),x4,x5,x6]/\Same H Hx/\Hx g=some (.dT kvs)/\Hx l=some (.lst wl)/\LeftR Hx wl ls/\GrL Hx kvs ks L/\(∀ kv∈kvs,kv.2 ≠ .ref l)/\L.Nodup/\(∀ s∈L,s < 128)/\(∀ s∈L,∀ p∈stp ks s,p.2.toNat∈L\/p.2.toNat∈ls)/\(s0∈L\/s0∈ls)/\ls.length<=2000 - 9 * (128 - L.length)/\m=9 * (128 - L.length) + ls.length,⟨_,[],[],[.ref b],[s0],_,_,_,rfl,s2,(by rw [zah hgl]; exact zac),zac,.cons ⟨hs0,b,rfl,s2 _ _ hb⟩ .nil,.nil,nofun,List.nodup_nil,nofun,nofun,.inr (by simp),(show 1<=2000 - 9 * (128 - 0) by decide),rfl⟩,?_⟩
  rintro m σ Hx ⟨kvs,L,wl,ls,x4,x5,x6,rfl,sx,hg,hl,lr,gr,hkl,nd,lt,cl,h0,hlb,rfl⟩
  have hL128:L.length<=128:=zaX 128 L nd lt
  refine ⟨_,rfl,bigr rfl,fun e ne => ?_⟩
  have se:Same Hx (upd Hx e (.lst [])):=Same.new ne
  refine ⟨_,_,.lst (SqL.of (se _ _ hl)) (lr.mono fun _ _ z=>se _ _ z).vd,.lst (SqL.of zac) .nil,?_,by decide,_,rfl,?_⟩
  ·have:=shaped_tups (ls.map fun (s:Nat)=>aheadOf (s:Int))
   rwa [List.map_map] at this
  have hll:=Paired.length lr
  cases hls:ls with
  | nil =>
   subst hls
   rw [if_pos rfl,show PyData.eqv (.list (List.map (fun s:Nat=>intTup (aheadOf (s:Int))) [])) (.list [])=true by decide]
   refine iteF ?_
   refine ⟨_,rfl,q g kvs L _ (sx.trans se) ng (se _ _ hg) (gr.same se) nd ⟨lt,fun s hs p hp=>(cl s hs p hp).resolve_right (by simp)⟩ (h0.resolve_right (by simp))⟩
  | cons t0 ts0 =>
   have hlpos:0 < ls.length:=by rw [hls]; simp
   rw [<- hls]
   rw [if_pos rfl,show PyData.eqv (.list (ls.map fun s:Nat=>intTup (aheadOf (s:Int)))) (.list [])=false by rw [hls]; simp [PyData.eqv,PyData.eqvAll]]
   refine iteT ?_
   have hg:=se _ _ hg
   have hl:=se _ _ hl
   have lr:LeftR (upd Hx e (.lst [])) wl ls:=lr.mono fun _ _ z=>se _ _ z
   have gr:=gr.same se
   have sx:=sx.trans se
   generalize upd Hx e (.lst [])=Hy at hg hl lr gr sx
   clear se ne
   refine ⟨fun σ' H'=>∃ m',m' < 9 * (128 - L.length) + ls.length/\∃ kvs L wl ls x4 x5 x6,σ' = [some (.ref k),some (.ref b),some (.ref g),some (.ref l),x4,x5,x6]/\Same H H'/\H' g=some (.dT kvs)/\H' l=some (.lst wl)/\LeftR H' wl ls/\GrL H' kvs ks L/\(∀ kv∈kvs,kv.2 ≠ .ref l)/\L.Nodup/\(∀ s∈L,s < 128)/\(∀ s∈L,∀ p∈stp ks s,p.2.toNat∈L\/p.2.toNat∈ls)/\(s0∈L\/s0∈ls)/\ls.length<=2000 - 9 * (128 - L.length)/\m'=9 * (128 - L.length) + ls.length,fun _ _ h=>h,?_⟩
   obtain ⟨v,ev,t128,qt,rfl,hqt⟩:=Paired.at lr (List.getElem?_eq_getElem (show ls.length - 1 < ls.length by omega))
   have els:ls=ls.dropLast ++ [ls[ls.length - 1]'(by omega)]:=by
    have hne:ls ≠ []:=fun z=>by rw [z] at hlpos; simp at hlpos
    have:=(List.dropLast_concat_getLast hne).symm
    rwa [List.getLast_eq_getElem] at this
   generalize ls[ls.length - 1]'(by omega)=t at ev t128 hqt els
   refine ⟨_,rfl,.inl ⟨rfl,_,SqL.of hl⟩,l,wl,.ref qt,rfl,rfl,hl,(by rw [<- hll]; exact ev),?_⟩
   have ldl:ls.dropLast.length=ls.length - 1:=List.length_dropLast
   have lr1:LeftR (upd Hy l (.lst wl.dropLast)) wl.dropLast ls.dropLast:=by
    have h1:LeftR Hy wl.dropLast ls.dropLast:=by
     have:∀ {a:List Nat} {c:List V},LeftR Hy c a->LeftR Hy c.dropLast a.dropLast:=by
      intro a c r
      induction r with
      | nil=>exact .nil
      | cons h r' ih =>
       cases r' with
       | nil=>exact .nil
       | cons h2 r2=>exact .cons h ih
     exact this lr
    exact h1.mono fun qa xs z=>by rw [zah (fun z2=>by rw [z2,hl] at z; cases z)]; exact z
   have gr1:GrL (upd Hy l (.lst wl.dropLast)) kvs ks L:=gr.mono (fun kv hkv qa vs z z2=>by rw [zah (fun z3=>hkl kv hkv (by rw [z,z3]))]; exact z2) fun qa xs z=>by rw [zah (fun z2=>by rw [z2,hl] at z; cases z)]; exact z
   have hg1:upd Hy l (.lst wl.dropLast) g=some (.dT kvs):=by rw [zah hgl]; exact hg
   have hl1:upd Hy l (.lst wl.dropLast) l=some (.lst wl.dropLast):=zac
   have hqt1:upd Hy l (.lst wl.dropLast) qt=some (.tup ((akey t).map kV)):=by
    rw [zah (fun z2=>by rw [z2,hl] at hqt; cases hqt)]
    unfold akey
    rw [kI_V]
    exact hqt
   have sx1:Same H (upd Hy l (.lst wl.dropLast)):=sx.put nl0
   generalize upd Hy l (.lst wl.dropLast)=H1 at lr1 gr1 hg1 hl1 hqt1 sx1
   clear lr gr hg hl hqt sx
   refine ⟨_,rfl,_,rfl,g,_,rfl,DGet.t hg1 hqt1,_,rfl,?_⟩
   have hh:=gr1.has lt t128
   by_cases hin:t∈L
   ·have hh2:(valV kvs (akey t)).isSome=true:=by rw [hh]; exact decide_eq_true hin
    obtain ⟨vv,hvv⟩:=Option.isSome_iff_exists.mp hh2
    rw [hvv]
    refine iteF ?_
    refine ⟨_,?_,kvs,L,wl.dropLast,ls.dropLast,_,_,_,rfl,sx1,hg1,hl1,lr1,gr1,hkl,nd,lt,fun s hs p hp => ?_,?_,by omega,rfl⟩
    ·omega
    ·rcases cl s hs p hp with z | z
     ·exact .inl z
     ·rw [els] at z
      rcases List.mem_append.mp z with z | z
      ·exact .inr z
      ·rw [List.mem_singleton.mp z]; exact .inl hin
    ·rcases h0 with z | z
     ·exact .inl z
     ·rw [els] at z
      rcases List.mem_append.mp z with z | z
      ·exact .inr z
      ·rw [List.mem_singleton.mp z]; exact .inl hin
   ·have hno:valV kvs (akey t)=none:=by
     cases ez:valV kvs (akey t) with
     | none=>rfl
     | some v=>rw [ez] at hh; exact absurd (of_decide_eq_true hh.symm) hin
    rw [hno]
    refine iteT ?_
    have hqi:H1 qt=some (.tup ((aheadOf (t:Int)).map V.int)):=by
     have:=hqt1
     unfold akey at this
     rwa [kI_V] at this
    refine ⟨_,rfl,_,rfl,k,qt,ws,ks,aheadOf (t:Int),rfl,sx1 _ _ hk,kr.same sx1,by omega,gc,SqT.of hqi,zbv _,zcG,fun pv H2 vs' s2 npv hpv gv => ?_⟩
    have nd1:(L ++ [t]).Nodup:=List.nodup_append.mpr ⟨nd,by simp,fun u hu v hv e=>by rw [List.mem_singleton.mp hv] at e; exact hin (e ▸ hu)⟩
    have lt1:∀ s∈L ++ [t],s < 128:=fun s hs=>(List.mem_append.mp hs).elim (lt s) fun z=>by rw [List.mem_singleton.mp z]; exact t128
    have hL1:(L ++ [t]).length<=128:=zaX 128 _ nd1 lt1
    rw [List.length_append,List.length_singleton] at hL1
    have hkl2:=gr1.len
    refine ⟨_,rfl,_,rfl,g,_,rfl,DPut.t (k:=akey t) (s2 _ _ hg1) (s2 _ _ hqt1) (Nat.lt_of_lt_of_le (by omega:kvs.length < 1000) zaQ),?_⟩
    rw [zcD _ hno]
    have hg2:=s2 _ _ hg1
    have keep:∀ qa o,(∃ xs,o=HO.lst xs)\/(∃ xs,o=HO.tup xs)->H2 qa=some o->upd H2 g (.dT (kvs ++ [(akey t,.ref pv)])) qa=some o:=fun qa o ho ea=>by
     rw [zah (fun z=>by rw [z,hg2] at ea; cases ea; rcases ho with ⟨_,h⟩ | ⟨_,h⟩ <;> cases h)]
     exact ea
    have hpl:pv≠l:=fun z=>by rw [z,hl1] at npv; cases npv
    have gr3:GrL (upd H2 g (.dT (kvs ++ [(akey t,.ref pv)]))) (kvs ++ [(akey t,.ref pv)]) ks (L ++ [t]) :=
     ((gr1.same s2).mono (fun _ _ qa vs _ e=>keep _ _ (.inl ⟨_,rfl⟩) e) fun qa xs e=>keep _ _ (.inr ⟨_,rfl⟩) e).snoc (keep _ _ (.inl ⟨_,rfl⟩) hpv) (gv.mono fun qa xs e=>keep _ _ (.inr ⟨_,rfl⟩) e)
    have gv3:GoesR (upd H2 g (.dT (kvs ++ [(akey t,.ref pv)]))) vs' (goesOf ks (aheadOf (t:Int))):=gv.mono fun qa xs e=>keep _ _ (.inr ⟨_,rfl⟩) e
    have lr3:=(lr1.mono fun _ _ z=>s2 _ _ z).mono fun qa xs e=>keep _ _ (.inr ⟨_,rfl⟩) e
    have hl3:=keep _ _ (.inl ⟨_,rfl⟩) (s2 _ _ hl1)
    have hpv3:=keep _ _ (.inl ⟨_,rfl⟩) hpv
    have hqt3:=keep _ _ (.inr ⟨_,rfl⟩) (s2 _ _ hqt1)
    have hg3:upd H2 g (.dT (kvs ++ [(akey t,.ref pv)])) g=some (.dT (kvs ++ [(akey t,.ref pv)])):=zac
    have sx3:Same H (upd H2 g (.dT (kvs ++ [(akey t,.ref pv)]))):=(sx1.trans s2).put ng
    generalize upd H2 g (.dT (kvs ++ [(akey t,.ref pv)]))=H3 at gr3 gv3 lr3 hl3 hpv3 hqt3 hg3 sx3
    have hkl3:∀ kv∈kvs ++ [(akey t,V.ref pv)],kv.2 ≠ .ref l:=fun kv hkv=>by
     rcases List.mem_append.mp hkv with z | z
     ·exact hkl kv z
     ·rw [List.mem_singleton.mp z]
      exact fun z=>hpl (by injection z)
    have dg:DGet H3 g (.ref qt) (some (.ref pv)):=by
     have:valV (kvs ++ [(akey t,V.ref pv)]) (akey t)=some (.ref pv):=by
      rw [<- zcD _ hno,valV_put,if_pos rfl]
     rw [<- this]
     exact DGet.t hg3 hqt3
    refine ⟨_,rfl,_,rfl,_,_,rfl,dg,_,rfl,⟨_,SqL.of hpv3⟩,?_⟩
    have hgl8:=zd7 h8 t t128 gc
    have hvl:=gv3.length
    refine zcr (zar K pv vs') (fun i σ Hz=>Same H Hz/\∃ wl' x5 x6,σ = [some (.ref k),some (.ref b),some (.ref g),some (.ref l),some (.ref qt),x5,x6]/\Hz g=some (.dT (kvs ++ [(akey t,.ref pv)]))/\Hz l=some (.lst wl')/\Hz pv=some (.lst vs')/\LeftR Hz wl' (ls.dropLast ++ ((goesOf ks (aheadOf (t:Int))).take i).map fun p=>(worth p.2).toNat)/\GrL Hz (kvs ++ [(akey t,.ref pv)]) ks (L ++ [t])/\GoesR Hz vs' (goesOf ks (aheadOf (t:Int)))) ⟨sx3,wl.dropLast,_,_,rfl,hg3,hl3,hpv3,(by simpa using lr3),gr3,gv3⟩ (fun i σ Hz _ h=>by obtain ⟨_,_,_,_,_,_,_,h,_⟩:=h; exact SqL.of h) ?_ ?_
    ·rintro i x σ Hz hx ⟨sz,wl',x5,x6,rfl,hgz,hlz,hpz,lz,grz,gvz⟩
     obtain ⟨q1,t1,rfl,e2,e3,hlt⟩:=gvz.nth hx
     have hmem:(goesOf ks (aheadOf (t:Int)))[i]∈goesOf ks (aheadOf (t:Int)):=List.getElem_mem hlt
     have egd:(goesOf ks (aheadOf (t:Int))).getD i ("",[])=(goesOf ks (aheadOf (t:Int)))[i]:=by rw [List.getD_eq_getElem?_getD,List.getElem?_eq_getElem hlt]; rfl
     rw [egd] at e2 e3
     obtain ⟨k1,k2,k3,k4⟩:=zdH t128 gc hmem
     have hwl':=Paired.length lz
     rw [List.length_append,List.length_map,List.length_take,ldl] at hwl'
     refine ⟨q1,_,rfl,SqT.of e2,rfl,_,_,rfl,_,_,rfl,rfl,?_⟩
     refine ⟨_,rfl,.inl ⟨rfl,_,SqL.of hlz⟩,_,rfl,l,wl',_,rfl,rfl,hlz,Nat.lt_of_lt_of_le (by omega:wl'.length < 3000) (by decide),?_⟩
     have kt:∀ qa xs,Hz qa=some (.tup xs)->upd Hz l (.lst (wl' ++ [.ref t1])) qa=some (.tup xs):=fun qa xs z=>by rw [zah (fun z2=>by rw [z2,hlz] at z; cases z)]; exact z
     refine ⟨sz.put nl0,_,_,_,rfl,(by rw [zah hgl]; exact hgz),zac,(by rw [zah hpl]; exact hpz),?_,grz.mono (fun kv hkv qa vs z z2=>by rw [zah (fun z3=>hkl3 kv hkv (by rw [z,z3]))]; exact z2) kt,gvz.mono kt⟩
     rw [List.take_succ_eq_append_getElem hlt,List.map_append,<- List.append_assoc]
     refine Paired.snoc (lz.mono kt) ⟨k1,t1,rfl,kt _ _ ?_⟩
     have e4:aheadOf (((worth (goesOf ks (aheadOf (t:Int)))[i].2).toNat:Nat):Int)=(goesOf ks (aheadOf (t:Int)))[i].2:=ze3 (by rw [k3]; rfl)
     rw [e4]
     exact e3
    ·rintro σ Hz ⟨sz,wl',x5,x6,rfl,hgz,hlz,hpz,lz,grz,gvz⟩
     rw [hvl,List.take_length] at lz
     have est:(goesOf ks (aheadOf (t:Int))).map (fun p=>(worth p.2).toNat)=(stp ks t).map fun p=>p.2.toNat:=by
      rw [<- zbn t128 gc,List.map_map]
      rfl
     refine ⟨_,?_,_,L ++ [t],wl',_,_,_,_,rfl,sz,hgz,hlz,lz,grz,hkl3,nd1,lt1,fun s hs p hp => ?_,?_,?_,rfl⟩
     ·rw [List.length_append,List.length_append,List.length_singleton,List.length_map,ldl]
      omega
     ·rw [est]
      rcases List.mem_append.mp hs with z | z
      ·rcases cl s z p hp with z | z
       ·exact .inl (List.mem_append_left _ z)
       ·rw [els] at z
        rcases List.mem_append.mp z with z | z
        ·exact .inr (List.mem_append_left _ z)
        ·rw [List.mem_singleton.mp z]; exact .inl (List.mem_append_right _ (List.mem_singleton.mpr rfl))
      ·rw [List.mem_singleton.mp z] at hp
       exact .inr (List.mem_append_right _ (List.mem_map.mpr ⟨p,hp,rfl⟩))
     ·rcases h0 with z | z
      ·exact .inl (List.mem_append_left _ z)
      ·rw [els] at z
       rcases List.mem_append.mp z with z | z
       ·exact .inr (List.mem_append_left _ z)
       ·rw [List.mem_singleton.mp z]; exact .inl (List.mem_append_right _ (List.mem_singleton.mpr rfl))
     ·rw [List.length_append,List.length_append,List.length_singleton,List.length_map,ldl]
      omega
noncomputable def sp_live:Sp:=fun vs H Q _=>∃ (g:Addr) (kvs:List (List Key×V)) (ks:Combs) (L:List Nat) (s1:Nat),vs = [.ref g]/\H g=some (.dT kvs)/\GrL H kvs ks L/\L.Nodup/\ClsS ks L/\s1∈L/\GC ks/\ks.length<=8/\∀ p lvs m H',Same H H'->H' p=some (.dT lvs)->lvs.map (·.1)=(lv ks L m).map akey->(∀ s∈L,∀ k,tr (rowAt ks (m + k)) s=tr (rowAt ks m) s)->Q (.ref p) H'
theorem zfr:FnScope ["_law_graph_here","_law_live_here","_law_kept","_law_ahead"] ["_law_graph_here"] (defScope s_live):=⟨rfl,rfl,rfl,by decide +kernel,rfl,by decide +kernel,by decide +kernel⟩
theorem ok_live (D:DefAt K mg "_law_live" s_live) (T:Bn mg):Callee P w K mg base "_law_live" 1 ["_law_graph_here"] sp_live:=by
 refine D.callee zfr (fun _ _ _ _ _ _=>ln1 fun _=>rfl) (fun vs H Q E h => ?_) (fun f cdv A outer s H vs Q E hr h => ?_)
 ·obtain ⟨g,kvs,ks,L,s1,rfl,_⟩:=h
  rfl
 ·obtain ⟨g,kvs,ks,L,sL,rfl,hg,gr,ndL,cl,hsL,gc,h8,q⟩:=h
  have ltL:=cl.1
  have S:=zfr
  have hu:=zci hr
  refine ⟨_,zad (zap (i:=1) S.nd rfl (Or.inr rfl) (zdz))
  (zad (zap (i:=2) S.nd rfl (Or.inl rfl) (zaZ call_dictT rfl T.n_dict boot_dict (zaa (pv 0) zae)))
  (zad (zcc PassesOwn.never (zaq zeo (zak zeb rfl T.n_len PySem.boot_len (zaa (pv 2) zae)) (zak zeb rfl T.n_len PySem.boot_len (zaa (pv 1) zae)) (zat _))
   (zad (zap (i:=1) S.nd rfl (Or.inr rfl) (pv 2))
   (zad (zap (i:=2) S.nd rfl (Or.inl rfl) (zdz))
   (zaf (ps_forT PassesOwn.never rfl (pv 1) (zas (i:=3) S.nd rfl (Or.inl rfl))
    (zaf (zaF (zbh (zak (zfa rfl) rfl T.n_any boot_any (zaa (za7 (own := ["_law_word_here","_law_further"]) (caps := [(1,"_law_live_here")]) rfl ⟨rfl,rfl,rfl,rfl,⟨⟨rfl,rfl,.inl rfl⟩,trivial⟩⟩ (zaJ (zdB hu (pv 0) (pv 3) (fun _ _=>rfl))) (fun _ _ _ _ _ _=>pg_tup' K rfl (n:=2) rfl (zaV (zas (i:=0) (za3 (by decide +kernel)) rfl (Or.inl rfl)) (zaV (zas (i:=1) (za3 (by decide +kernel)) rfl (Or.inl rfl)) (zcn)))) (fun _ _ _ _ _ _=>zbE) (fun _ _ _ _ _ _=>pe_cmp (zgd hu (pv 1) (pv 2)))) zae)))
     (zaf (zcP hu (pv 2) (pv 3) (zbO) rfl))
     (zan))))))))
  (zaf (zal (pv 1))))),?_⟩
  refine fun l0 nl0 => ?_
  have s1:Same H (upd H l0 (.dT [])):=Same.new nl0
  refine ⟨_,rfl,g,kvs,L.map fun (s:Nat)=>aheadOf (s:Int),rfl,s1 _ _ hg,by rw [gr.keys,akeysL_kI],(fun z=>by rw [List.map_eq_nil_iff] at z; rw [z] at hsL; cases hsL),hashes_nd ndL ltL,fun p1 np1 => ?_⟩
  have np10:H p1=none:=s1.free np1
  have s2:Same H (upd (upd H l0 (.dT [])) p1 (.dT kvs)):=s1.trans (Same.new np1)
  have hl2:upd (upd H l0 (.dT [])) p1 (.dT kvs) l0=some (.dT []):=Same.new np1 _ _ zac
  refine ⟨fun k σ Hx=>∃ j lh kp lvs kvs' x3,σ = [some (.ref g),some (.ref lh),some (.ref kp),x3]/\Same H Hx/\H kp=none/\Hx lh=some (.dT lvs)/\Hx kp=some (.dT kvs')/\kvs'.map (·.1)=(lv ks L j).map akey/\((j=0/\lvs = []/\k=L.length + 1)\/∃ i,j=i + 1/\lvs.map (·.1)=(lv ks L i).map akey/\k=(lv ks L i).length),⟨_,0,l0,p1,[],kvs,_,rfl,s2,np10,hl2,zac,by rw [gr.keys,zeq ltL],.inl ⟨rfl,rfl,rfl⟩⟩,?_⟩
  rintro k σ Hx ⟨j,lh,kp,lvs,kvs',x3,rfl,sx,nkp,hlh,hkp,hkk,hcase⟩
  have hkl:kvs'.length=(lv ks L j).length:=by have:=congrArg List.length hkk; rwa [List.length_map,List.length_map] at this
  refine ⟨_,rfl,_,_,rfl,hkp,_,rfl,_,_,rfl,hlh,rfl,_,rfl,?_⟩
  by_cases heq:kvs'.length=lvs.length
  ·rw [heq,decide_eq_true (rfl:V.int ((lvs.length:Nat):Int)=_)]
   refine iteF ?_
   rcases hcase with ⟨rfl,rfl,_⟩ | ⟨i,rfl,hlv,_⟩
   ·rw [hkl] at heq
    rw [zeq ltL] at heq
    have:=List.length_pos_of_mem hsL
    simp at heq
    rw [heq] at hsL
    cases hsL
   ·have hll:lvs.length=(lv ks L i).length:=by have:=congrArg List.length hlv; rwa [List.length_map,List.length_map] at this
    exact ⟨_,rfl,q lh lvs i Hx sx hlh hlv (lv_fix gc cl (by omega))⟩
  ·rw [decide_eq_false (fun z=>heq (by injection z with z; omega))]
   refine iteT ?_
   have hless:(lv ks L j).length < k:=by
    rcases hcase with ⟨rfl,rfl,rfl⟩ | ⟨i,rfl,hlv,rfl⟩
    ·rw [zeq ltL]; omega
    ·have hll:lvs.length=(lv ks L i).length:=by have:=congrArg List.length hlv; rwa [List.length_map,List.length_map] at this
     have:=lv_le gc ltL i
     omega
   refine ⟨fun σ' H'=>∃ m',m' < k/\∃ j lh kp lvs kvs' x3,σ' = [some (.ref g),some (.ref lh),some (.ref kp),x3]/\Same H H'/\H kp=none/\H' lh=some (.dT lvs)/\H' kp=some (.dT kvs')/\kvs'.map (·.1)=(lv ks L j).map akey/\((j=0/\lvs = []/\m'=L.length + 1)\/∃ i,j=i + 1/\lvs.map (·.1)=(lv ks L i).map akey/\m'=(lv ks L i).length),fun _ _ h=>h,?_⟩
   refine ⟨_,rfl,fun p2 np2 => ?_⟩
   have np20:H p2=none:=sx.free np2
   have hne2:kp≠p2:=zai hkp np2
   refine ⟨kp,kvs',rfl,(by rw [zah hne2]; exact hkp),fun o => ?_⟩
   have s3:Same H (upd (upd Hx p2 (.dT [])) kp (.frz o (.dT kvs'))):=(sx.put np20).put nkp
   refine forT_g (fun i σ Hy=>Same H Hy/\∃ nvs x3,σ = [some (.ref g),some (.ref kp),some (.ref p2),x3]/\Hy kp=some (.frz o (.dT kvs'))/\Hy p2=some (.dT nvs)/\nvs.length<=i/\nvs.map (·.1)=(((lv ks L j).take i).filter fun s=>tr (rowAt ks (j + 1)) s).map akey) ⟨s3,[],_,rfl,zac,(by rw [zah hne2.symm]; exact zac),Nat.le_refl _,by simp⟩ (fun i σ Hy h=>by obtain ⟨_,nvs,x3,_,h,_⟩:=h; exact h) ?_ ?_
   ·rintro i kk y b σ Hy hk hb ⟨sy,nvs,x3,rfl,hkpy,hp2,hnl,hnv⟩
    have hki:(kvs'.map (·.1))[i]?=some kk:=by rw [List.getElem?_map,hk]; rfl
    rw [hkk] at hki
    rw [List.getElem?_map] at hki
    cases hsi:(lv ks L j)[i]? with
    | none=>rw [hsi] at hki; cases hki
    | some s0 =>
     rw [hsi] at hki
     cases hki
     obtain ⟨hs1,hs2⟩:=List.mem_filter.mp (List.mem_of_getElem? hsi)
     have hsm:=hs1
     have hs1:=ltL s0 hs1
     have nd:(lv ks L j).Nodup:=ndL.sublist List.filter_sublist
     obtain ⟨qv,vv,ev,hqv,gv⟩:=(gr.same sy).val ndL ltL hsm
     have dg:DGet Hy g (.ref b) (some (.ref qv)):=by rw [<- ev]; exact DGet.t (sy _ _ hg) hb
     refine ⟨_,rfl,_,rfl,_,_,rfl,dg,_,rfl,⟨_,SqL.of hqv⟩,fun D hD => ?_⟩
     have hgl:=gv.length
     have hg8:=zd7 h8 s0 hs1 gc
     refine comp_i2 (capv := [some (.ref kp)]) (by rfl) (zar K qv vv) (big (by omega)) hD (fun H' s'=>SqL.of (s' _ _ hqv)) (fun i => .str ((goesOf ks (aheadOf (s0:Int))).getD i ("",[])).1) (tupY Hy vv) (fun i x hx=>by
      obtain ⟨q1,t1,rfl,e2,e3,_⟩:=gv.nth hx
      exact ⟨q1,rfl,by rw [zfk hx e2]; exact e2⟩) (fun _=>true) (fun i => .bl (tr (rowAt ks j) (worth ((goesOf ks (aheadOf (s0:Int))).getD i ("",[])).2).toNat)) (fun _ _ _=>nofun) (fun i hi H R s' h=>h H (Same.refl _)) ?_ ?_
     ·intro i' hi' _ H' R s' h
      obtain ⟨q1,t1,e1,e2,e3,hlt⟩:=gv.nth (List.getElem?_eq_getElem hi')
      have hm:(goesOf ks (aheadOf (s0:Int))).getD i' ("",[])∈goesOf ks (aheadOf (s0:Int)):=by rw [List.getD_eq_getElem?_getD,List.getElem?_eq_getElem hlt]; exact List.getElem_mem hlt
      obtain ⟨k1,k2,k3,k4⟩:=zdH hs1 gc hm
      have ey:tupY Hy vv i' = .ref t1:=zfk (by rw [List.getElem?_eq_getElem hi',e1]) e2
      rw [ey]
      refine ⟨_,rfl,_,rfl,kp,_,rfl,.inr ⟨kvs',akey (worth ((goesOf ks (aheadOf (s0:Int))).getD i' ("",[])).2).toNat,t1,.inr ⟨o,s' _ _ hkpy⟩,rfl,(by rw [<- k3,kI_V]; exact s' _ _ e3),rfl⟩,?_⟩
      rw [zgE ltL hkk (cl.2 s0 hsm _ k4)]
      exact h H' (Same.refl _)
     ·intro H' s' e
      refine ⟨_,(List.range vv.length).map fun i=>tr (rowAt ks j) (worth ((goesOf ks (aheadOf (s0:Int))).getD i ("",[])).2).toNat,rfl,SqL.of ?_,_,rfl,?_⟩
      ·rw [e,List.filter_eq_self.mpr (fun _ _=>rfl),List.map_map]
       rfl
      have hany:((List.range vv.length).map fun i=>tr (rowAt ks j) (worth ((goesOf ks (aheadOf (s0:Int))).getD i ("",[])).2).toNat).any (fun b=>b)=tr (rowAt ks (j + 1)) s0:=by
       rw [hgl,zei (goesOf ks (aheadOf (s0:Int))) (fun p=>tr (rowAt ks j) (worth p.2).toNat) ("",[])]
       show _=tr (nxtRow ks (rowAt ks j)) s0
       rw [zbS hs1,<- zbn hs1 gc,List.any_map]
       rfl
      show if List.any _ id=true then _ else _
      rw [show List.any ((List.range vv.length).map fun i=>tr (rowAt ks j) (worth ((goesOf ks (aheadOf (s0:Int))).getD i ("",[])).2).toNat) id=tr (rowAt ks (j + 1)) s0 from hany]
      have etk:(lv ks L j).take (i + 1)=(lv ks L j).take i ++ [s0]:=zaC hsi
      refine ite2 (fun hz => ?_) (fun hz => ?_)
      ·have hz:tr (rowAt ks (j + 1)) s0=true:=by simpa using hz
       have hnone:valV nvs (akey s0)=none:=by
        cases ez:valV nvs (akey s0) with
        | none=>rfl
        | some v =>
         exfalso
         have z:akey s0∈nvs.map (·.1):=valV_mem.mp (by rw [ez]; rfl)
         rw [hnv] at z
         obtain ⟨s',hs',e'⟩:=List.mem_map.mp z
         have hs':=(List.mem_filter.mp hs').1
         have h128:s' < 128:=ltL s' (List.mem_filter.mp (List.mem_of_mem_take hs')).1
         have:=zcF h128 hs1 e'
         subst this
         obtain ⟨n,hn,en⟩:=List.getElem_of_mem hs'
         rw [List.length_take] at hn
         rw [List.getElem_take] at en
         have hi':n=i:=(List.getElem?_inj (l:=lv ks L j) (by omega) nd).mp (by rw [hsi,List.getElem?_eq_getElem (by omega),en])
         omega
       refine ⟨_,rfl,_,rfl,p2,_,rfl,DPut.t (k:=akey s0) (s' _ _ hp2) (s' _ _ hb) ?_,?_⟩
       ·have:i < 128:=by
         have:=(List.getElem?_eq_some_iff.mp hsi).1
         have h2:=List.length_filter_le (fun s=>tr (rowAt ks j) s) L
         have h3:=zaX 128 L ndL ltL
         unfold lv at this
         omega
        exact Nat.lt_of_lt_of_le (by omega:nvs.length < 1000) zaQ
       rw [zcD _ hnone]
       refine ⟨(sy.trans s').put np20,_,_,rfl,(by rw [zah hne2]; exact s' _ _ hkpy),zac,(by rw [List.length_append,List.length_singleton]; omega),?_⟩
       rw [etk,List.filter_append,List.map_append,List.map_append,<- hnv,List.filter_cons,if_pos hz]
       rfl
      ·have hz:¬ tr (rowAt ks (j + 1)) s0=true:=by simpa using hz
       refine ⟨sy.trans s',nvs,_,rfl,s' _ _ hkpy,s' _ _ hp2,by omega,?_⟩
       rw [etk,List.filter_append,List.map_append,<- hnv,List.filter_cons,if_neg hz]
       simp
   ·rintro σ Hy ⟨sy,nvs,x3,rfl,hkpy,hp2,hnl,hnv⟩
    refine ⟨hkpy,_,hless,j + 1,kp,p2,kvs',nvs,_,rfl,sy.put nkp,np20,zac,(by rw [zah hne2.symm]; exact hp2),?_,.inr ⟨j,rfl,hkk,rfl⟩⟩
    rw [hnv]
    rw [List.take_of_length_le (by omega)]
    unfold lv
    rw [List.filter_filter]
    congr 1
    refine List.filter_congr fun s hs => ?_
    have hs:=ltL s hs
    cases e:tr (rowAt ks (j + 1)) s with
    | false=>rfl
    | true=>rw [zcm gc j s hs e]; rfl
noncomputable def sp_laying:Sp:=fun vs H Q _=>∃ (q:Addr) (a:Int) (x:Str),vs = [.ref q]/\H q=some (.tup [.int a,.str x])/\Q (.bl true) H
theorem zdU:FnScope ["_law_one"] ["_law_one"] (defScope s_laying):=⟨rfl,rfl,rfl,by decide +kernel,rfl,by decide +kernel,by decide +kernel⟩
theorem ok_laying (D:DefAt K mg "_law_laying" s_laying) (T:Bn mg) (C_whole:Callee P w K mg base "_law_whole" 1 ["_law_found"] sp_whole):Callee P w K mg base "_law_laying" 2 ["_law_one"] sp_laying:=by
 refine D.callee zdU (fun _ _ _ _ _ _=>ln1 fun _=>rfl) (fun vs H Q E h => ?_) (fun f cdv A outer s H vs Q E hr h => ?_)
 ·obtain ⟨qa,a,x,rfl,_⟩:=h
  rfl
 ·obtain ⟨qa,a,x,rfl,hq,q⟩:=h
  have S:=zdU
  refine ⟨_,zad (zaF (PW.pt (zem (zbm (zbh (zak (zbj "tuple") rfl T.n_isinstance boot_isinstance (zaa (pv 0) (zaa (zbI (v := .ty "tuple") rfl T.n_tuple boot_tuple rfl) zae))))) (zdW (zaq zeo (zak zao rfl T.n_len PySem.boot_len (zaa (pv 0) zae)) (zab) (zat _)))))
   (zaf (zal (zbO)))
   (zan))
  (zaf (zal (zdi (zaK C_whole (hr.mono (by decide)) rfl (zaa (zau zaB (pv 0) (zab) (fun _ _=>rfl)) zae)) (zeS (zak (zbj "str") rfl T.n_isinstance boot_isinstance (zaa (zau zaB (pv 0) (zab) (fun _ _=>rfl)) (zaa (zbI (v := .ty "str") rfl T.n_str boot_str rfl) zae))))))),?_⟩
  refine ⟨_,rfl,_,_,true,rfl,.tup hq,rfl,_,rfl,?_⟩
  refine iteF ?_
  refine ⟨_,rfl,_,_,rfl,.inr (SqT.of hq),rfl,_,rfl,?_⟩
  refine iteF ?_
  refine ⟨_,rfl,_,_,_,_,rfl,rfl,SqT.of hq,at0,a,rfl,_,rfl,?_⟩
  refine iteT ?_
  exact ⟨_,rfl,_,_,_,_,rfl,rfl,SqT.of hq,at1,_,_,true,rfl,.str x,rfl,q⟩
noncomputable def sp_layings:Sp:=fun vs H Q _=>∃ (p:Addr) (ws:List V),vs = [.ref p]/\H p=some (.lst ws)/\(∀ (i:Nat) x,ws[i]?=some x->∃ q a s,x = .ref q/\H q=some (.tup [.int a,.str s]))/\Q (.bl true) H
theorem zde:FnScope ["_law_found","_law_one"] ["_law_found"] (defScope s_layings):=⟨rfl,rfl,rfl,by decide +kernel,rfl,by decide +kernel,by decide +kernel⟩
theorem ok_layings (D:DefAt K mg "_law_layings" s_layings) (T:Bn mg) (C_laying:Callee P w K mg base "_law_laying" 2 ["_law_one"] sp_laying):Callee P w K mg base "_law_layings" 3 ["_law_found"] sp_layings:=by
 refine D.callee zde (fun _ _ _ _ _ _=>ln1 fun _=>rfl) (fun vs H Q E h => ?_) (fun f cdv A outer s H vs Q E hr h => ?_)
 ·obtain ⟨p,ws,rfl,_⟩:=h
  rfl
 ·obtain ⟨p,ws,rfl,hp,hw,q⟩:=h
  have S:=zde
  refine ⟨_,zad (zaF (zbm (zbh (zak (zbj "list") rfl T.n_isinstance boot_isinstance (zaa (pv 0) (zaa (zbI (v := .ty "list") rfl T.n_list boot_list rfl) zae)))))
   (zaf (zal (zbO)))
   (zan))
  (zad (zbi PassesOwn.never rfl (zaJ (pv 0)) (zas (i:=1) S.nd rfl (Or.inl rfl))
   (zaf (zaF (zbm (zbh (zaK C_laying (hr.mono (by decide)) rfl (zaa (pv 1) zae))))
    (zaf (zal (zbO)))
    (zan))))
  (zaf (zal (zbO)))),?_⟩
  refine ⟨_,rfl,_,_,true,rfl,.lst hp,rfl,_,rfl,?_⟩
  refine iteF ?_
  refine ⟨_,rfl,_,rfl,⟨_,SqL.of hp⟩,?_⟩
  refine zcr (zar K p ws) (fun i σ Hx=>Hx=H/\∃ x1,σ = [some (.ref p),x1]) ⟨rfl,_,rfl⟩ (fun i σ Hx _ h=>by rw [h.1]; exact SqL.of hp) ?_ ?_
  ·rintro i x σ Hx hx ⟨rfl,x1,rfl⟩
   obtain ⟨qa,a,x',rfl,e⟩:=hw i x hx
   refine ⟨_,rfl,qa,a,x',rfl,e,_,rfl,?_⟩
   refine iteF ?_
   exact ⟨rfl,_,rfl⟩
  ·rintro σ Hx ⟨rfl,x1,rfl⟩
   exact q
theorem at4 {x y z u:V}:atI [x,y,z,u] 0=some x/\atI [x,y,z,u] 1=some y/\atI [x,y,z,u] 2=some z/\atI [x,y,z,u] 3=some u:=⟨show atI _ ((0:Nat):Int)=_ from zaH rfl,show atI _ ((1:Nat):Int)=_ from zaH rfl,show atI _ ((2:Nat):Int)=_ from zaH rfl,show atI _ ((3:Nat):Int)=_ from zaH rfl⟩
theorem lays_each {H:Hp} {ws:List V} {nm:Nat->Str} {n:Nat} (r:LaysR H ws nm n):∀ (i:Nat) x,ws[i]?=some x->∃ q a s,x = .ref q/\H q=some (.tup [.int a,.str s]):=fun i x h=>by
 obtain ⟨j,_,q,e1,e2⟩:=Paired.rev r h
 exact ⟨q,_,_,e1,e2⟩
noncomputable def sp_stripform:Sp:=fun vs H Q _=>∃ (t:Addr) (C:Combs),vs = [.ref t]/\StripR H t C/\∀ H',Same H H'->Q (.bl true) H'
theorem zcw:FnScope ["_law_told"] ["_law_told"] (defScope s_stripform):=⟨rfl,rfl,rfl,by decide +kernel,rfl,by decide +kernel,by decide +kernel⟩
theorem ok_stripform (D:DefAt K mg "_law_stripform" s_stripform) (T:Bn mg) (C_whole:Callee P w K mg base "_law_whole" 1 ["_law_found"] sp_whole) (C_layings:Callee P w K mg base "_law_layings" 3 ["_law_found"] sp_layings):Callee P w K mg base "_law_stripform" 4 ["_law_told"] sp_stripform:=by
 refine D.callee zcw (fun _ _ _ _ _ _=>ln1 fun _=>rfl) (fun vs H Q E h => ?_) (fun f cdv A outer s H vs Q E hr h => ?_)
 ·obtain ⟨t,C,rfl,_⟩:=h
  rfl
 ·obtain ⟨t,C,rfl,lr,q⟩:=h
  have S:=zcw
  refine ⟨_,zad (zaF (PW.pt (zem (zbm (zbh (zak (zbj "tuple") rfl T.n_isinstance boot_isinstance (zaa (pv 0) (zaa (zbI (v := .ty "tuple") rfl T.n_tuple boot_tuple rfl) zae))))) (zem (zaq zgw (zak zao rfl T.n_len PySem.boot_len (zaa (pv 0) zae)) (zab) (zat _)) (zdW (zbm (zbh (zak (zbj "str") rfl T.n_isinstance boot_isinstance (zaa (zau zaB (pv 0) (zab) (fun _ _=>rfl)) (zaa (zbI (v := .ty "str") rfl T.n_str boot_str rfl) zae)))))))))
   (zaf (zal (zbO)))
   (zan))
  (zad (zaF (zaq zcB (zau zaB (pv 0) (zab) (fun _ _=>rfl)) (zaR) (zat _))
   (zaf (zal (zdi (zbH zcB (zak zao rfl T.n_len PySem.boot_len (zaa (pv 0) zae)) (zab) (zat _)) (zdi (zaK C_whole (hr.mono (by decide)) rfl (zaa (zau zaB (pv 0) (zab) (fun _ _=>rfl)) zae)) (zeS (zak (zbj "list") rfl T.n_isinstance boot_isinstance (zaa (zau zaB (pv 0) (zab) (fun _ _=>rfl)) (zaa (zbI (v := .ty "list") rfl T.n_list boot_list rfl) zae))))))))
   (zan))
  (zad (zaF (PW.pt (zem (zaq zeo (zau zaB (pv 0) (zab) (fun _ _=>rfl)) (zaR) (zat _)) (zem (zaq zeo (zak zao rfl T.n_len PySem.boot_len (zaa (pv 0) zae)) (zab) (zat _)) (zdW (zbm (zbh (zaK C_layings (hr.mono (by decide)) rfl (zaa (zau zaB (pv 0) (zab) (fun _ _=>rfl)) zae))))))))
   (zaf (zal (zbO)))
   (zan))
  (zad (zaF (PW.pt (zem (zbm (zbh (zaK C_whole (hr.mono (by decide)) rfl (zaa (zau zaB (pv 0) (zab) (fun _ _=>rfl)) zae)))) (zdW (zbm (zbh (zaK C_whole (hr.mono (by decide)) rfl (zaa (zau zaB (pv 0) (zab) (fun _ _=>rfl)) zae)))))))
   (zaf (zal (zbO)))
   (zan))
  (zaf (zal (zdi (zbH zf6 (zau zaB (pv 0) (zab) (fun _ _=>rfl)) (zab) (zat _)) (zdi (zbH zf6 (zau zaB (pv 0) (zab) (fun _ _=>rfl)) (zab) (zat _)) (zeS (zbH zfd (zaA zbR (zau zaB (pv 0) (zab) (fun _ _=>rfl)) (zau zaB (pv 0) (zab) (fun _ _=>rfl))) (zab) (zat _)))))))))),?_⟩
  rcases lr with ⟨m,st,n,pl,ws,sd,ht,hpl,la⟩ | ⟨m,k,pr,ws,hfix,hz,e1,e2,e3,ht,hpr,rn⟩
  ·obtain ⟨_,_,h1,h128,_⟩:=sd
   refine ⟨_,rfl,_,_,true,rfl,.tup ht,rfl,_,rfl,?_⟩
   refine iteF ?_
   refine ⟨_,rfl,_,_,rfl,.inr (SqT.of ht),_,_,rfl,rfl,_,rfl,?_⟩
   refine iteF ?_
   refine ⟨_,rfl,_,_,_,_,rfl,rfl,SqT.of ht,at4.1,_,_,true,rfl,.str _,rfl,_,rfl,?_⟩
   refine iteF ?_
   refine ⟨_,rfl,_,_,_,_,rfl,rfl,SqT.of ht,at4.1,rfl,_,rfl,?_⟩
   refine iteF ?_
   refine ⟨_,rfl,_,_,_,_,rfl,rfl,SqT.of ht,at4.1,rfl,_,rfl,?_⟩
   refine iteF ?_
   refine ⟨_,rfl,_,_,rfl,.inr (SqT.of ht),rfl,_,rfl,?_⟩
   refine iteF ?_
   refine ⟨_,rfl,_,_,_,_,rfl,rfl,SqT.of ht,at4.2.2.2,pl,ws,rfl,hpl,lays_each la,_,rfl,?_⟩
   refine iteF ?_
   refine ⟨_,rfl,_,_,_,_,rfl,rfl,SqT.of ht,at4.2.1,_,rfl,_,rfl,?_⟩
   refine iteF ?_
   refine ⟨_,rfl,_,_,_,_,rfl,rfl,SqT.of ht,at4.2.2.1,_,rfl,_,rfl,?_⟩
   refine iteF ?_
   refine ⟨_,rfl,_,_,_,_,rfl,rfl,SqT.of ht,at4.2.1,_,_,rfl,rfl,_,rfl,?_⟩
   rw [decide_eq_true (show (0:Int)<=((st:Nat):Int) by omega)]
   refine iteT ?_
   refine ⟨_,rfl,_,_,_,_,rfl,rfl,SqT.of ht,at4.2.2.1,_,_,rfl,rfl,_,rfl,?_⟩
   rw [decide_eq_true (show (1:Int)<=((n - st:Nat):Int) by omega)]
   refine iteT ?_
   refine ⟨_,rfl,_,_,_,_,rfl,rfl,SqT.of ht,at4.2.1,_,rfl,_,_,_,_,rfl,rfl,SqT.of ht,at4.2.2.1,_,_,rfl,rfl,_,_,rfl,rfl,?_⟩
   show Q (.bl (decide (((st:Nat):Int) + ((n - st:Nat):Int)<=128))) H
   rw [decide_eq_true (show ((st:Nat):Int) + ((n - st:Nat):Int)<=128 by omega)]
   exact q H (Same.refl H)
  ·refine ⟨_,rfl,_,_,true,rfl,.tup ht,rfl,_,rfl,?_⟩
   refine iteF ?_
   refine ⟨_,rfl,_,_,rfl,.inr (SqT.of ht),_,_,rfl,rfl,_,rfl,?_⟩
   refine iteF ?_
   refine ⟨_,rfl,_,_,_,_,rfl,rfl,SqT.of ht,at3s.1,_,_,true,rfl,.str _,rfl,_,rfl,?_⟩
   refine iteF ?_
   refine ⟨_,rfl,_,_,_,_,rfl,rfl,SqT.of ht,at3s.1,rfl,_,rfl,?_⟩
   refine iteT ?_
   refine ⟨_,rfl,_,_,rfl,.inr (SqT.of ht),rfl,_,rfl,?_⟩
   refine iteT ?_
   refine ⟨_,rfl,_,_,_,_,rfl,rfl,SqT.of ht,at3s.2.1,_,rfl,_,rfl,?_⟩
   refine iteT ?_
   exact ⟨_,rfl,_,_,_,_,rfl,rfl,SqT.of ht,at3s.2.2,_,_,true,rfl,.lst hpr,rfl,q H (Same.refl H)⟩
noncomputable def sp_lteeth:Sp:=fun vs H Q _=>∃ (k:Addr) (x:Str) (ws:List V) (ks:Combs) (ts:List Int) (G:Addr->Prop),vs = [.ref k,.str x]/\H k=some (.lst ws)/\Drawn G H ws ks/\cGet ks x=some ts/\∀ t,G t->H t=some (.lst (ts.map V.int))->Q (.ref t) H
theorem zeI:FnScope ["_law_kinds","_law_word_here","_law_name","_law_teeth_here"] ["_law_kinds","_law_word_here"] (defScope s_teeth):=⟨rfl,rfl,rfl,by decide +kernel,rfl,by decide +kernel,by decide +kernel⟩
theorem ok_lteeth (D:DefAt K mg "_law_teeth" s_teeth) (T:Bn mg):Callee P w K mg base "_law_teeth" 1 ["_law_kinds","_law_word_here"] sp_lteeth:=by
 refine D.callee zeI (fun _ _ _ _ _ _=>ln2 fun _ _=>rfl) (fun vs H Q E h => ?_) (fun f cdv A outer s H vs Q E hr h => ?_)
 ·obtain ⟨k,x,ws,ks,ts,G,rfl,_⟩:=h
  rfl
 ·obtain ⟨k,x,ws,ks,ts,G,rfl,hk,dr,hg,q⟩:=h
  have S:=zeI
  have hlen:=dr.rows.length
  refine ⟨_,zad (zbi PassesOwn.never rfl (zaJ (pv 0)) (zfz rfl (zaV (zas (i:=2) S.nd rfl (Or.inl rfl)) (zaV (zas (i:=3) S.nd rfl (Or.inl rfl)) (zcn))))
   (zaf (zaF (zaq zcB (pv 2) (pv 1) (zat _))
    (zaf (zal (pv 3)))
    (zan))))
  (zaf (zal (zaP (zae)))),?_⟩
  refine ⟨_,rfl,_,rfl,⟨_,SqL.of hk⟩,?_⟩
  refine zcr (zar K k ws) (fun i σ Hx=>Hx=H/\(∀ c∈ks.take i,c.1≠x)/\∃ x2 x3,σ = [some (.ref k),some (.str x),x2,x3]) ⟨rfl,by simp,_,_,rfl⟩ (fun i σ Hx _ h=>by rw [h.1]; exact SqL.of hk) ?_ ?_
  ·rintro i y σ Hx hx ⟨rfl,hno,x2,x3,rfl⟩
   obtain ⟨c,qa,t,hc,rfl,hq,ht,hgt⟩:=dr.rows.getG hx
   refine ⟨qa,_,rfl,SqL.of hq,rfl,_,_,rfl,_,_,rfl,rfl,?_⟩
   refine ⟨_,rfl,_,rfl,rfl,_,rfl,?_⟩
   by_cases e:c.1=x
   ·rw [decide_eq_true (by rw [e])]
    refine iteT ?_
    have:=zep dr.nd (List.mem_of_getElem? hc)
    rw [e,hg] at this
    refine ⟨_,rfl,q t hgt ?_⟩
    rw [ht,Option.some.inj this]
   ·rw [decide_eq_false (fun z=>e (by injection z))]
    refine iteF ?_
    refine ⟨rfl,fun c' hc' => ?_,_,_,rfl⟩
    rw [zaC hc] at hc'
    rcases List.mem_append.mp hc' with z | z
    ·exact hno c' z
    ·rw [List.mem_singleton.mp z]; exact e
  ·rintro σ Hx ⟨rfl,hno,x2,x3,rfl⟩
   rw [List.take_of_length_le (by omega)] at hno
   exact absurd rfl (hno _ (zfR hg))
noncomputable def StepW (ks:Combs) (wf:Nat->Nat) (nm:Nat->Str) (j:Nat):Prop :=
 ((0:Int)∈aheadOf (wf j:Int)/\nm j=Str.ofString "" /\ aheadOf (wf (j + 1):Int)=afterOf (aheadOf (wf j:Int)) []) \/
 ((0:Int) ∉ aheadOf (wf j:Int)/\nm j≠Str.ofString "" /\ ∃ ts,cGet ks (nm j)=some ts/\GT ts/\meets (aheadOf (wf j:Int)) ts=false/\aheadOf (wf (j + 1):Int)=afterOf (aheadOf (wf j:Int)) ts)
noncomputable def MetR (H:Hp) (wf:Nat->Nat) (n:Nat) (ws:List V):Prop:=TupsR H ((List.range n).map fun j=>aheadOf (wf j:Int)) ws
theorem MetR.len {H:Hp} {wf:Nat->Nat} {n:Nat} {ws:List V} (r:MetR H wf n ws):ws.length=n:=by
 have hl:=Paired.length r
 rw [List.length_map,List.length_range] at hl
 exact hl.symm
theorem MetR.last {H:Hp} {wf:Nat->Nat} {n:Nat} {ws:List V} (r:MetR H wf (n + 1) ws):∃ q,atI ws (-1)=some (.ref q)/\H q=some (.tup ((aheadOf (wf n:Int)).map V.int)):=by
 unfold MetR at r
 rw [List.range_succ,List.map_append] at r
 obtain ⟨ws0,v,rfl,_,q,rfl,hq⟩:=zce r
 exact ⟨q,atI_last _ _,hq⟩
theorem MetR.at' {H:Hp} {wf:Nat->Nat} {n j:Nat} {ws:List V} (r:MetR H wf n ws) (h:j < n):∃ q,ws[j]?=some (.ref q)/\H q=some (.tup ((aheadOf (wf j:Int)).map V.int)):=by
 obtain ⟨y,ey,q,rfl,hq⟩:=Paired.at r (show ((List.range n).map fun j=>aheadOf (wf j:Int))[j]?=some (aheadOf (wf j:Int)) by rw [List.getElem?_map,List.getElem?_range h]; rfl)
 exact ⟨q,ey,hq⟩
theorem MetR.mono {H H':Hp} {wf:Nat->Nat} {n:Nat} {ws:List V} (r:MetR H wf n ws) (m:∀ q xs,H q=some (.tup xs)->H' q=some (.tup xs)):MetR H' wf n ws:=Paired.mapP r fun _ _ ⟨q,b,c⟩=>⟨q,b,m _ _ c⟩
theorem MetR.snoc {H:Hp} {wf:Nat->Nat} {n:Nat} {ws:List V} (r:MetR H wf n ws) {q:Addr} (h:H q=some (.tup ((aheadOf (wf n:Int)).map V.int))):MetR H wf (n + 1) (ws ++ [.ref q]):=by
 unfold MetR
 rw [List.range_succ,List.map_append]
 exact zcp r (.cons ⟨q,rfl,h⟩ .nil)
theorem eqv_nilS {d:PyData} {ds:List PyData}:PyData.eqv (.list (d :: ds)) (.list [])=false:=by simp [PyData.eqv,PyData.eqvAll]
theorem shaped_intsS (a:List Int):SeqAt.shaped (.list (a.map PyData.int))=true:=by
 have h1:PyData.canLayAll0 (a.map PyData.int)=true:=by
  induction a with
  | nil=>rfl
  | cons x a ih=>rw [List.map_cons,PyData.canLayAll0,ih]; rfl
 have h2:∀ a:List Int,PyData.depthAll (a.map PyData.int)=0:=by
  intro a
  induction a with
  | nil=>rfl
  | cons x a ih=>rw [List.map_cons,PyData.depthAll,ih]; rfl
 simp [SeqAt.shaped,PyData.canLay0,PyData.depth,h1,h2]
theorem lays_atS {H:Hp} {ws:List V} {nm:Nat->Str} {n:Nat} (r:LaysR H ws nm n) {i:Nat} {x:V} (h:ws[i]?=some x):∃ j q,(laid nm n)[i]?=some j/\x = .ref q/\H q=some (.tup [.int (j:Int),.str (nm j)])/\j < n/\nm j≠Str.ofString "" := by
 obtain ⟨j,e0,q,e1,e2⟩:=Paired.rev r h
 obtain ⟨h1,h2⟩:=List.mem_filter.mp (List.mem_of_getElem? e0)
 exact ⟨j,q,e0,e1,e2,List.mem_range.mp h1,by simpa using h2⟩
noncomputable def sp_walk13:Sp:=fun vs H Q _=>∃ (k pl:Addr) (n:Nat) (ws wl:List V) (ks:Combs) (wf:Nat->Nat) (nm:Nat->Str),vs = [.ref k,.ref pl,.int (n:Nat)]/\H k=some (.lst ws)/\Drawn (fun _=>True) H ws ks/\H pl=some (.lst wl)/\LaysR H wl nm n/\n<=128/\aheadOf (wf 0:Int) = []/\(∀ j,j < n->StepW ks wf nm j) /\
 ∀ p H' ws',Same H H'->H p=none->H' p=some (.lst ws')->MetR H' wf (n + 1) ws'->Q (.ref p) H'
theorem zfp:FnScope ["_law_kinds","_law_layings_here","_law_many","_law_met","_law_place","_law_teeth_here","_law_spot","_law_word_here","_law_further"] ["_law_kinds","_law_layings_here","_law_many"] (defScope s_walk):=⟨rfl,rfl,rfl,by decide +kernel,rfl,by decide +kernel,by decide +kernel⟩
theorem ok_walk13 (D:DefAt K mg "_law_walk" s_walk) (T:Bn mg) (C_teeth:Callee P w K mg base "_law_teeth" 1 ["_law_kinds","_law_word_here"] sp_lteeth) (C_after:Callee P w K mg base "_law_after" 1 ["_law_ahead","_law_teeth_here"] (sp_after K)):Callee P w K mg base "_law_walk" 2 ["_law_kinds","_law_layings_here","_law_many"] sp_walk13:=by
 refine D.callee zfp (fun _ _ _ _ _ _=>ln3 fun _ _ _=>rfl) (fun vs H Q E h => ?_) (fun f cdv A outer s H vs Q E hr h => ?_)
 ·obtain ⟨k,pl,n,ws,wl,ks,wf,nm,rfl,_⟩:=h
  rfl
 ·obtain ⟨k,pl,n,ws,wl,ks,wf,nm,rfl,hk,dr,hpl,la,hn,h0,hst,q⟩:=h
  have S:=zfp
  have hu:=zci hr
  have hll:=Paired.length la
  refine ⟨_,zad (zap (i:=3) S.nd rfl (Or.inl rfl) (zaP (zaa (zbA (zae)) zae)))
  (zad (zbi PassesOwn.never rfl (zbF rfl T.n_range (zaa (pv 2) zae)) (zas (i:=4) S.nd rfl (Or.inl rfl))
   (zad (zap (i:=5) S.nd rfl (Or.inl rfl) (zaP (zae)))
   (zad (zbi PassesOwn.never rfl (zaJ (pv 1)) (zfy rfl (zaV (zas (i:=6) S.nd rfl (Or.inl rfl)) (zaV (zas (i:=7) S.nd rfl (Or.inl rfl)) (zcn))))
    (zaf (zaF (zaq zcB (pv 6) (pv 4) (zat _))
     (zaf (zap (i:=5) S.nd rfl (Or.inl rfl) (zaK C_teeth (hr.mono (by decide)) rfl (zaa (pv 0) (zaa (pv 7) zae)))))
     (zan))))
   (zad (zaF (zaq zcB (zbH zcT (zab) (zau zaD (pv 3) (zdy zb1 (zab)) (fun _ _=>rfl)) (by with_unfolding_all rfl)) (zbH (zeW hr.units) (pv 5) (zaP (zae)) (zat _)) (zat _))
    (zaf (zal (zaP (zae))))
    (zan))
   (zad (zap (i:=8) S.nd rfl (Or.inl rfl) (zaK C_after (hr.mono (by decide)) rfl (zaa (zau zaD (pv 3) (zdy zb1 (zab)) (fun _ _=>rfl)) (zaa (pv 5) zae))))
   (zad (zaF (zaq op_isN (pv 8) (zfA) (zat _))
    (zaf (zal (zaP (zae))))
    (zan))
   (zaf (za6 (zc5 PySem.F.plainAttrs_list PySem.F.slot_list_append PySem.F.type_list_append zaM (pv 3) (zaa (pv 8) zae))))))))))
  (zaf (zal (pv 3)))),?_⟩
  refine ⟨bigr rfl,fun p0 np0=>⟨bigr rfl,fun p np => ?_⟩⟩
  have s1:Same H (upd (upd H p0 (.tup [])) p (.lst [.ref p0])):=(Same.new np0).trans (Same.new np)
  have npH:H p=none:=(Same.new np0).free np
  have hp1:upd (upd H p0 (.tup [])) p (.lst [.ref p0]) p=some (.lst [.ref p0]):=zac
  have m1:MetR (upd (upd H p0 (.tup [])) p (.lst [.ref p0])) wf (0 + 1) [.ref p0]:=by
   refine MetR.snoc (ws := []) (show TupsR _ ((List.range 0).map fun j=>aheadOf (wf j:Int)) [] from .nil) ?_
   rw [h0,zah (fun z=>by rw [<- z,zac] at np; cases np)]
   exact zac
  generalize upd (upd H p0 (.tup [])) p (.lst [.ref p0])=H1 at s1 hp1 m1 ⊢
  refine ⟨_,rfl,_,rfl,by omega,by omega,?_⟩
  refine zcr (zbd 0 ((n:Nat):Int).toNat) (fun i σ Hx=>Same H Hx/\∃ ws' x4 x5 x6 x7 x8,σ = [some (.ref k),some (.ref pl),some (.int (n:Nat)),some (.ref p),x4,x5,x6,x7,x8]/\Hx p=some (.lst ws')/\MetR Hx wf (i + 1) ws') ⟨s1,_,_,_,_,_,_,rfl,hp1,m1⟩ (fun _ _ _ _ _=>trivial) ?_ ?_
  ·rintro i x σ Hx hx ⟨sx,ws',x4,x5,x6,x7,x8,rfl,hp,mt⟩
   obtain ⟨hi,rfl⟩:=zca hx
   have hi:i < n:=by simpa using hi
   rw [Int.zero_add]
   refine ⟨bigr rfl,fun tb0 ntb0 => ?_⟩
   have s2:Same Hx (upd Hx tb0 (.lst [])):=Same.new ntb0
   have htb0:upd Hx tb0 (.lst []) tb0=some (.lst []):=zac
   have hp2:=s2 _ _ hp
   have mt2:=mt.mono fun _ _ z=>s2 _ _ z
   have sx2:=sx.trans s2
   generalize upd Hx tb0 (.lst [])=H2 at s2 htb0 hp2 mt2 sx2 ⊢
   refine ⟨_,rfl,_,rfl,⟨_,SqL.of (sx2 _ _ hpl)⟩,?_⟩
   refine zcr (zar K pl wl) (fun i' σ Hy=>Hy=H2/\∃ tb x6 x7,σ = [some (.ref k),some (.ref pl),some (.int (n:Nat)),some (.ref p),some (.int (i:Nat)),some (.ref tb),x6,x7,x8]/\((i∈(laid nm n).take i'/\∃ ts,cGet ks (nm i)=some ts/\H2 tb=some (.lst (ts.map V.int)))\/(i ∉ (laid nm n).take i'/\H2 tb=some (.lst [])))) ⟨rfl,tb0,_,_,rfl,.inr ⟨by simp,htb0⟩⟩ (fun i' σ Hy _ h=>by rw [h.1]; exact SqL.of (sx2 _ _ hpl)) ?_ ?_
   ·rintro i' y σ Hy hy ⟨rfl,tb,x6',x7',rfl,hor⟩
    obtain ⟨j,qa,ej,rfl,hqa,hj,hne⟩:=lays_atS la hy
    refine ⟨qa,_,rfl,SqT.of (sx2 _ _ hqa),rfl,_,_,rfl,_,_,rfl,rfl,?_⟩
    refine ⟨_,rfl,_,rfl,rfl,_,rfl,?_⟩
    by_cases e:j=i
    ·subst e
     rw [decide_eq_true rfl]
     refine iteT ?_
     have hgo:∃ ts,cGet ks (nm j)=some ts:=by
      rcases hst j hj with ⟨_,z,_⟩ | ⟨_,_,ts,z,_⟩
      ·exact absurd z hne
      ·exact ⟨ts,z⟩
     obtain ⟨ts,hts⟩:=hgo
     refine ⟨_,rfl,_,rfl,k,nm j,ws,ks,ts,_,rfl,sx2 _ _ hk,dr.same sx2,hts,fun t _ ht => ?_⟩
     refine ⟨rfl,t,_,_,rfl,.inl ⟨?_,ts,hts,ht⟩⟩
     rw [zaC ej]
     exact List.mem_append_right _ (List.mem_singleton.mpr rfl)
    ·rw [decide_eq_false (fun z=>e (by injection z with z; omega))]
     refine iteF ?_
     refine ⟨rfl,tb,_,_,rfl,?_⟩
     rw [zaC ej]
     rcases hor with ⟨z1,z2⟩ | ⟨z1,z2⟩
     ·exact .inl ⟨List.mem_append_left _ z1,z2⟩
     ·refine .inr ⟨fun z => ?_,z2⟩
      rcases List.mem_append.mp z with z | z
      ·exact z1 z
      ·exact e (List.mem_singleton.mp z).symm
   ·rintro σ Hy ⟨rfl,tb,x6',x7',rfl,hor⟩
    rw [List.take_of_length_le (show (laid nm n).length<=wl.length from Nat.le_of_eq hll)] at hor
    have hmem:i∈laid nm n ↔ nm i≠Str.ofString "" := by
     unfold laid
     rw [List.mem_filter,List.mem_range]
     simp [hi]
    obtain ⟨qa,hat,hqa⟩:=mt2.last
    obtain ⟨ts,htb,gts,hm,hnx,hin⟩:∃ ts:List Int,Hy tb=some (.lst (ts.map V.int))/\(ts.Nodup/\∀ d∈ts,0<=d/\d<=7)/\meets (aheadOf (wf i:Int)) ts=false/\aheadOf (wf (i + 1):Int)=afterOf (aheadOf (wf i:Int)) ts/\(decide ((0:Int)∈aheadOf (wf i:Int))=PyData.eqv (.list (ts.map PyData.int)) (.list [])):=by
     rcases hst i hi with ⟨a1,a2,a3⟩ | ⟨a1,a2,ts,a3,a4,a5,a6⟩
     ·rcases hor with ⟨z1,_⟩ | ⟨_,z2⟩
      ·exact absurd a2 (hmem.mp z1)
      ·refine ⟨[],z2,⟨List.nodup_nil,nofun⟩,rfl,a3,?_⟩
       rw [decide_eq_true a1]
       decide
     ·rcases hor with ⟨_,ts',z2,z3⟩ | ⟨z1,_⟩
      ·rw [a3] at z2
       cases z2
       refine ⟨ts,z3,⟨zaW (zfe a4),zff a4⟩,a5,a6,?_⟩
       rw [decide_eq_false a1]
       cases ts with
       | nil=>exact absurd (zfO a4) (by simp)
       | cons u us=>exact eqv_nilS.symm
      ·exact absurd (hmem.mpr a2) z1
    refine ⟨_,rfl,_,rfl,_,_,_,_,rfl,rfl,SqL.of hp2,hat,_,_,rfl,.inr (SqT.of hqa),rfl,zf8 _,_,rfl,bigr rfl,fun e3 ne3 => ?_⟩
    have s3:Same Hy (upd Hy e3 (.lst [])):=Same.new ne3
    refine ⟨.list (ts.map PyData.int),.list [],.lst (SqL.of (s3 _ _ htb)) (VDs.map fun u _ => .int u),.lst (SqL.of zac) .nil,shaped_intsS ts,by decide,rfl,_,rfl,?_⟩
    rw [if_neg Bool.false_ne_true,if_pos (rfl:true=true),zes,hin]
    rw [decide_eq_false (fun z=>by injection z with z; revert z; cases PyData.eqv (.list (ts.map PyData.int)) (.list []) <;> decide)]
    refine iteF ?_
    have sx3:=sx2.trans s3
    have hp3:=s3 _ _ hp2
    have hqa3:=s3 _ _ hqa
    have htb3:=s3 _ _ htb
    have mt3:=mt2.mono fun _ _ z=>s3 _ _ z
    generalize upd Hy e3 (.lst [])=H3 at s3 sx3 hp3 hqa3 htb3 mt3 ⊢
    refine ⟨_,rfl,_,rfl,_,_,_,_,rfl,rfl,SqL.of hp3,hat,_,rfl,qa,tb,aheadOf (wf i:Int),ts,rfl,.inl (.inl hqa3),htb3,zbv _,zcG,gts.1,gts.2,?_⟩
    rw [if_neg (by rw [hm]; decide)]
    intro p1 H4 s4 n1 e1
    refine ⟨_,rfl,rfl,_,rfl,iteF ?_⟩
    have hp4:=s4 _ _ hp3
    refine ⟨_,rfl,.inl ⟨rfl,_,SqL.of hp4⟩,_,rfl,p,ws',_,rfl,rfl,hp4,Nat.lt_of_lt_of_le (by have:=mt2.len; omega:ws'.length < 1000) zaQ,?_⟩
    have tn:∀ q' xs,H4 q'=some (.tup xs)->upd H4 p (.lst (ws' ++ [.ref p1])) q'=some (.tup xs):=fun q' xs h=>by
     have:q'≠p:=fun z=>by rw [z,hp4] at h; cases h
     rw [zah this]; exact h
    refine ⟨(sx3.trans s4).put npH,_,_,_,_,_,_,rfl,zac,?_⟩
    refine MetR.snoc ((mt3.mono fun _ _ z=>s4 _ _ z).mono tn) (tn _ _ ?_)
    rw [hnx]
    exact e1
  ·rintro σ Hx ⟨sx,ws',x4,x5,x6,x7,x8,rfl,hp,mt⟩
   rw [zcN,Int.toNat_natCast] at mt
   exact ⟨_,rfl,q p Hx ws' sx npH hp mt⟩
noncomputable def spLaw (K:W.Frag):Sp:=fun vs H Q _=>∃ (a:Addr) (ns:List Int),vs = [.ref a]/\SqL K H a (ns.map V.int)/\ns.length<=63/\∀ H',Q (.bl true) H'
theorem name_ne {x:Str} (h:isName x=true):x≠Str.ofString "" := fun z=>by rw [z] at h; revert h; decide
theorem steps_of {G:Addr->Prop} {H:Hp} {ws:List V} {ks:Combs} (dr:Drawn G H ws ks) (gcs:GC (srt ks)) {m:Nat} (hfix:nxtRow (srt ks) (rowAt (srt ks) m)=rowAt (srt ks) m) (ht:tr (rowAt (srt ks) m) 0=true) (j:Nat):StepW ks (wk (srt ks) (rowAt (srt ks) m) 0) (wn (srt ks) (rowAt (srt ks) m) 0) j:=by
 have pm:=zds dr.nd
 rcases wk_go gcs hfix (show 0 < 128 by decide) ht j with ⟨a,b,c⟩ | ⟨a,c,hc,e,hm,hn⟩
 ·exact .inl ⟨a,b,c⟩
 ·have hck:=pm.mem_iff.mp hc
  exact .inr ⟨a,by rw [e]; exact name_ne (dr.good c hck).1,c.2,by rw [e]; exact zep dr.nd hck,gcs c hc,hm,hn⟩
theorem intTup_eqv (a:List Int):PyData.eqv (intTup a) (intTup a)=true:=by
 have:∀ a:List Int,PyData.eqvAll (a.map PyData.int) (a.map PyData.int)=true:=by
  intro a
  induction a with
  | nil=>rfl
  | cons x a ih=>rw [List.map_cons,PyData.eqvAll,ih]; simp [PyData.eqv]
 unfold intTup
 rw [PyData.eqv,this a]
theorem zbu (a:List Int):SeqAt.shaped (intTup a)=true:=by
 have h1:PyData.canLayAll0 (a.map PyData.int)=true:=by
  induction a with
  | nil=>rfl
  | cons x a ih=>rw [List.map_cons,PyData.canLayAll0,ih]; rfl
 have h2:∀ a:List Int,PyData.depthAll (a.map PyData.int)=0:=by
  intro a
  induction a with
  | nil=>rfl
  | cons x a ih=>rw [List.map_cons,PyData.depthAll,ih]; rfl
 simp [intTup,SeqAt.shaped,PyData.canLay0,PyData.depth,h1,h2]
theorem inj_ahead {wf:Nat->Nat} (lt:∀ j,wf j < 128) (n:Nat):∀ x∈(List.range n).map fun j=>aheadOf (wf j:Int),∀ y∈(List.range n).map fun j=>aheadOf (wf j:Int),hshI x=hshI y->x=y:=by
 intro x hx y hy e
 obtain ⟨i,_,rfl⟩:=List.mem_map.mp hx
 obtain ⟨j,_,rfl⟩:=List.mem_map.mp hy
 have nd:=zcA
 have h1:((List.range 128).map fun (n:Nat)=>hshI (aheadOf (n:Int)))[wf i]?=some (hshI (aheadOf (wf i:Int))):=by rw [List.getElem?_map,List.getElem?_range (lt i)]; rfl
 have h2:((List.range 128).map fun (n:Nat)=>hshI (aheadOf (n:Int)))[wf j]?=some (hshI (aheadOf (wf j:Int))):=by rw [List.getElem?_map,List.getElem?_range (lt j)]; rfl
 rw [<- e] at h2
 have:=(List.getElem?_inj (List.getElem?_eq_some_iff.mp h1).1 nd).mp (h1.trans h2.symm)
 rw [this]
theorem many_met {wf:Nat->Nat} (lt:∀ j,wf j < 128) {st n:Nat} (hst:st < n) (he:wf n=wf st) (nd:((List.range n).map wf).Nodup) {ks:List (List Int)} (hk:ks.Nodup) (hm:∀ x,x∈ks ↔ x∈(List.range (n + 1)).map fun j=>aheadOf (wf j:Int)):ks.length=n:=by
 have nd2:((List.range n).map fun j=>aheadOf (wf j:Int)).Nodup:=by
  have e:((List.range n).map fun j=>aheadOf (wf j:Int))=((List.range n).map wf).map fun s:Nat=>aheadOf (s:Int):=by rw [List.map_map]; rfl
  rw [e]
  rw [List.nodup_iff_pairwise_ne] at nd ⊢
  rw [List.pairwise_map]
  refine List.Pairwise.imp_of_mem (fun {a b} ha hb hab z=>hab (zek ?_ ?_ z)) nd
  ·obtain ⟨i,_,rfl⟩:=List.mem_map.mp ha; exact lt i
  ·obtain ⟨i,_,rfl⟩:=List.mem_map.mp hb; exact lt i
 have pm:ks.Perm ((List.range n).map fun j=>aheadOf (wf j:Int)):=by
  refine (List.perm_ext_iff_of_nodup hk nd2).mpr fun x => ?_
  rw [hm,List.range_succ,List.map_append,List.mem_append,List.map_singleton,List.mem_singleton]
  refine ⟨fun z=>z.elim id fun e => ?_,.inl⟩
  rw [e,he]
  exact List.mem_map.mpr ⟨st,List.mem_range.mpr hst,rfl⟩
 have:=pm.length_eq
 rwa [List.length_map,List.length_range] at this
theorem zga:FnScope ["_law_script","_law_kinds","_law_told","_law_met"] ["_law_script"] (defScope s_law):=⟨rfl,rfl,rfl,by decide +kernel,rfl,by decide +kernel,by decide +kernel⟩
theorem ok_law {C:Addr} (D:DefAt K mg "law" s_law) (T:Bn mg) (C_combs:Callee P w K mg base "_law_combs" 2 ["_law_script"] (sp_combs K)) (C_book:Callee P w K mg base "_law_book" 4 ["_law_kinds"] (sp_mkbook C)) (C_fill_strip:Callee1 P w K mg base "fill_strip" 5 ["book"] (sp_strip C))
  (C_stripform:Callee P w K mg base "_law_stripform" 4 ["_law_told"] sp_stripform) (C_graph:Callee P w K mg base "_law_graph" 3 ["_law_kinds","_law_begin"] sp_graph) (C_live:Callee P w K mg base "_law_live" 1 ["_law_graph_here"] sp_live) (C_walk:Callee P w K mg base "_law_walk" 2 ["_law_kinds","_law_layings_here","_law_many"] sp_walk13):Callee P w K mg base "law" 6 ["_law_script"] (spLaw K):=by
 refine D.callee zga (fun _ _ _ _ _ _=>ln1 fun _=>rfl) (fun vs H Q E h => ?_) (fun f cdv A outer s H vs Q E hr h => ?_)
 ·obtain ⟨a,ns,rfl,_⟩:=h
  rfl
 ·obtain ⟨a,ns,rfl,hS,hl,q⟩:=h
  have S:=zga
  have hu:=zci hr
  refine ⟨_,zad (zap (i:=1) S.nd rfl (Or.inl rfl) (zaK C_combs (hr.mono (by decide)) rfl (zaa (pv 0) zae)))
  (zad (zap (i:=2) S.nd rfl (Or.inl rfl) (zfD C_fill_strip (hr.mono (by decide)) (by first | exact pass_try | exact zc6 | exact zbk) rfl (zaa (zaK C_book (hr.mono (by decide)) rfl (zaa (pv 1) zae)) zae)))
  (zad (zaF (zbm (zbh (zaK C_stripform (hr.mono (by decide)) rfl (zaa (pv 2) zae))))
   (zaf (zal (zbO)))
   (zan))
  (zad (zaF (zdX (zcd hu (zbA (zae)) (zaK C_live (hr.mono (by decide)) rfl (zaa (zaK C_graph (hr.mono (by decide)) rfl (zaa (pv 1) (zaa (zbA (zae)) zae))) zae))))
   (zaf (zal (zbH zcB (zau zaB (pv 2) (zab) (fun _ _=>rfl)) (zaR) (zat _))))
   (zan))
  (zad (zaF (zaq zeo (zau zaB (pv 2) (zab) (fun _ _=>rfl)) (zaR) (zat _))
   (zaf (zal (zbO)))
   (zan))
  (zad (zap (i:=3) S.nd rfl (Or.inl rfl) (zaK C_walk (hr.mono (by decide)) rfl (zaa (pv 1) (zaa (zau zaB (pv 2) (zab) (fun _ _=>rfl)) (zaa (zaA zbR (zau zaB (pv 2) (zab) (fun _ _=>rfl)) (zau zaB (pv 2) (zab) (fun _ _=>rfl))) zae)))))
  (zad (zaF (PW.pt (zem (zaq (op_eqD hr.units) (pv 3) (zaP (zae)) (zat _)) (zdW (zaq (zeW hr.units) (zau zaD (pv 3) (zdy zb1 (zab)) (fun _ _=>rfl)) (zau zaD (pv 3) (zau zaB (pv 2) (zab) (fun _ _=>rfl)) (fun _ _=>rfl)) (zat _)))))
   (zaf (zal (zbO)))
   (zan))
  (zaf (zal (zbH zcB (zak call_lenX rfl T.n_len PySem.boot_len (zaa (zaZ (call_setT hr.units rfl) rfl T.n_set boot_set (zaa (pv 3) zae)) zae)) (zaA zeV (zak zao rfl T.n_len PySem.boot_len (zaa (pv 3) zae)) (zab)) (zat _)))))))))),?_⟩
  refine ⟨_,rfl,a,ns,rfl,hS,fun pk ks ws H1 s1 npk hpk dr hk8 => ?_⟩
  have gc:GC ks:=fun c hc=>(dr.good c hc).2
  have pm:=zds dr.nd
  refine ⟨_,rfl,pk,ws,ks,rfl,hpk,dr,hk8,fun b l G past H2 s2 nb nl nG B hpl => ?_⟩
  refine ⟨b,l,G,ks,past,rfl,B,fun t H3 s3 lr3 => ?_⟩
  obtain ⟨gcs,hs8⟩:=zfm B
  refine ⟨_,rfl,t,srt ks,rfl,lr3,fun H4 s4=>⟨_,rfl,?_⟩⟩
  refine iteF ?_
  have s14:=(s2.trans s3).trans s4
  have lr4:=lr3.same s4
  refine ⟨bigr rfl,fun te nte => ?_⟩
  have s5:Same H4 (upd H4 te (.tup [])):=Same.new nte
  have hte:upd H4 te (.tup []) te=some (.tup ((akey 0).map kV)):=by
   rw [zac]
   unfold akey
   rw [kI_V,show aheadOf ((0:Nat):Int) = [] by decide]
   rfl
  generalize upd H4 te (.tup [])=H5 at s5 hte ⊢
  refine ⟨_,rfl,bigr rfl,fun tb ntb => ?_⟩
  have s6:Same H5 (upd H5 tb (.tup [])):=Same.new ntb
  have s16:=(s14.trans s5).trans s6
  refine ⟨pk,tb,ws,ks,0,rfl,s16 _ _ hpk,(dr.same s16).rows,hk8,gc,by decide,?_,fun g kvs L H7 s7 ng hg gr ndL cl h0L => ?_⟩
  ·rw [zac,show aheadOf ((0:Nat):Int) = [] by decide]; rfl
  refine ⟨g,kvs,ks,L,0,rfl,hg,gr,ndL,cl,h0L,gc,hk8,fun p lvs i H8 s8 hp hlv hst => ?_⟩
  have s68:=(s6.trans s7).trans s8
  have s48:=s5.trans s68
  have s18:=s14.trans s48
  have lr8:=lr4.same s48
  refine ⟨p,_,rfl,DGet.t hp (s68 _ _ hte),_,rfl,?_⟩
  have hin:=zgE cl.1 hlv h0L
  rcases lr8 with ⟨m,st,n,pl,wl,sd,ht,hpl',la⟩ | ⟨m,k,pr,wl,hfix,hz,e1,e2,e3,ht,hpr,rn⟩
  rotate_left
  ·rw [zbl pm,zbU pm] at hfix
   rw [zbl pm] at hz
   have hrow:=zgh hst hfix h0L
   rw [hrow,hz] at hin
   have hno:valV lvs (akey 0)=none:=by
    cases ez:valV lvs (akey 0) with
    | none=>rfl
    | some v=>rw [ez] at hin; cases hin
   rw [hno]
   refine iteT ?_
   exact ⟨_,rfl,_,_,_,_,rfl,rfl,SqT.of ht,at3s.1,rfl,q _⟩
  obtain ⟨hfix,ht0,hst2,hn,hper,hnd⟩:=sd
  have hwok:=zfh gcs hfix (show 0 < 128 by decide) ht0
  have hsteps:=steps_of dr gcs hfix ht0
  have hfix':=hfix
  have ht0':=ht0
  rw [zbl pm,zbU pm] at hfix'
  rw [zbl pm] at ht0'
  rw [zgh hst hfix' h0L,ht0'] at hin
  obtain ⟨vv,hvv⟩:=Option.isSome_iff_exists.mp hin
  rw [hvv]
  refine iteF ?_
  refine ⟨_,rfl,_,_,_,_,rfl,rfl,SqT.of ht,at4.1,rfl,_,rfl,?_⟩
  refine iteF ?_
  refine ⟨_,rfl,_,rfl,_,_,_,_,rfl,rfl,SqT.of ht,at4.2.2.2,_,rfl,_,_,_,_,rfl,rfl,SqT.of ht,at4.2.1,_,rfl,_,_,_,_,rfl,rfl,SqT.of ht,at4.2.2.1,_,_,rfl,rfl,?_⟩
  refine ⟨pk,pl,n,ws,wl,ks,wk (srt ks) (rowAt (srt ks) m) 0,wn (srt ks) (rowAt (srt ks) m) 0,?_,s18 _ _ hpk,dr.same s18,hpl',la,hn,(by decide:aheadOf ((0:Nat):Int) = []),fun j _=>hsteps j,fun pm' H9 ws' s9 npm hpm mt => ?_⟩
  ·have e:((st:Nat):Int) + ((n - st:Nat):Int)=((n:Nat):Int):=by omega
   show [V.ref pk,V.ref pl,V.int (((st:Nat):Int) + ((n - st:Nat):Int))]=_
   rw [e]
  generalize wk (srt ks) (rowAt (srt ks) m) 0=wf at *
  have hml:=mt.len
  have vm:∀ {H':Hp},Same H9 H'->VD K H' (.ref pm') (.list ((List.range (n + 1)).map fun j=>intTup (aheadOf (wf j:Int)))):=fun {H'} s'=>by
   refine .lst (SqL.of (s' _ _ hpm)) ?_
   have:∀ {l:List Nat} {ws:List V},TupsR H9 (l.map fun j=>aheadOf (wf j:Int)) ws->VDs K H' ws (l.map fun j=>intTup (aheadOf (wf j:Int))):=by
    intro l
    induction l with
    | nil=>intro ws r; cases r; exact .nil
    | cons j l ih =>
     intro ws r
     cases r with
     | cons h r =>
      obtain ⟨q,rfl,hq⟩:=h
      exact .cons (.tup (SqT.of (s' _ _ hq)) (VDs.map fun u _ => .int u)) (ih r)
   exact this mt
  have vsh:SeqAt.shaped (.list ((List.range (n + 1)).map fun j=>intTup (aheadOf (wf j:Int))))=true:=by
   have hl:∀ l:List Nat,PyData.canLayAll0 (l.map fun j=>intTup (aheadOf (wf j:Int)))=true/\PyData.depthAll (l.map fun j=>intTup (aheadOf (wf j:Int)))<=2:=by
    intro l
    induction l with
    | nil=>exact ⟨rfl,Nat.zero_le _⟩
    | cons j l ih =>
     have hs:=zbu (aheadOf (wf j:Int))
     have hd:(intTup (aheadOf (wf j:Int))).depth<=1:=by
      have h2:∀ a:List Int,PyData.depthAll (a.map PyData.int)=0:=by
       intro a
       induction a with
       | nil=>rfl
       | cons x a ih=>rw [List.map_cons,PyData.depthAll,ih]; rfl
      simp [intTup,PyData.depth,h2]
     unfold SeqAt.shaped at hs
     rw [Bool.and_eq_true] at hs
     rw [List.map_cons,PyData.canLayAll0,PyData.depthAll,ih.1,hs.1]
     exact ⟨rfl,by omega⟩
   have:=hl (List.range (n + 1))
   have h2:PyData.depth (.list ((List.range (n + 1)).map fun j=>intTup (aheadOf (wf j:Int))))<=64:=by
    rw [PyData.depth]
    omega
   have h3:PyData.canLay0 (.list ((List.range (n + 1)).map fun j=>intTup (aheadOf (wf j:Int))))=true:=by
    simp [PyData.canLay0,this.1]
   unfold SeqAt.shaped
   rw [h3,decide_eq_true h2]
   rfl
  refine ⟨_,rfl,bigr rfl,fun ep nep => ?_⟩
  have s10:Same H9 (upd H9 ep (.lst [])):=Same.new nep
  refine ⟨_,_,vm s10,.lst (SqL.of zac) .nil,vsh,by decide,_,rfl,?_⟩
  rw [if_neg Bool.false_ne_true]
  rw [show PyData.eqv (.list ((List.range (n + 1)).map fun j=>intTup (aheadOf (wf j:Int)))) (.list [])=false by rw [List.range_succ_eq_map,List.map_cons]; exact eqv_nilS]
  obtain ⟨q1,a1,b1⟩:=mt.last
  obtain ⟨q2,a2,b2⟩:=mt.at' (show st < n + 1 by omega)
  have hpm10:=s10 _ _ hpm
  refine iteF ?_
  refine ⟨_,rfl,_,rfl,_,_,_,_,rfl,rfl,SqL.of hpm10,a1,_,rfl,_,rfl,_,_,_,_,rfl,rfl,SqT.of (s10 _ _ (s9 _ _ ht)),at4.2.1,_,_,_,_,rfl,rfl,SqL.of hpm10,zaH a2,?_⟩
  refine ⟨_,_,.tup (SqT.of (s10 _ _ b1)) (VDs.map fun u _ => .int u),.tup (SqT.of (s10 _ _ b2)) (VDs.map fun u _ => .int u),zbu _,zbu _,_,rfl,?_⟩
  rw [if_pos (rfl:true=true),hper]
  rw [show PyData.eqv (.tuple ((aheadOf (wf st:Int)).map PyData.int)) (.tuple ((aheadOf (wf st:Int)).map PyData.int))=true from intTup_eqv _]
  refine iteF ?_
  refine ⟨_,rfl,pm',ws',_,rfl,SqL.of hpm10,Paired.mapP mt fun _ _ ⟨q,z1,z2⟩=>⟨q,z1,s10 _ _ z2⟩,(by rw [List.length_map,List.length_range]; omega),inj_ahead (fun j=>(hwok j).1) (n + 1),fun px kx npx ndx hmx => ?_⟩
  have hkl:=many_met (fun j=>(hwok j).1) hst2 hper hnd ndx hmx
  have s11:Same (upd H9 ep (.lst [])) (upd (upd H9 ep (.lst [])) px (.ext (setHas px kx.length))):=Same.new npx
  refine ⟨px,_,rfl,zac,?_⟩
  refine ⟨_,rfl,_,_,rfl,.inl (SqL.of (s11 _ _ hpm10)),_,_,rfl,rfl,rfl,?_⟩
  rw [hkl,hml,decide_eq_true (show V.int ((n:Nat):Int)=V.int (((n + 1:Nat):Int) - 1) by congr 1; omega)]
  exact q _
end
theorem walk {l:PySem.W.OpenLaw} {q:Program} {loose:List Str} {XP:(Str->Option Value)->Heap->Prop} {YP:World->Heap->Prop} {d:DefRec} {K:Params->W.Frag} (hn:l.most=some 63) (hdf:d.params.defaults = [])
  (hY:∀ (w:World) (h:Heap),YP w h->(K w.params).In h)
  (F:∀ (w:World) (mg:Str->Option Value) (fa:Addr) (h:Heap),(K w.params).In h->h.Ns mainGlobals mg->mg d.name=some (.ref fa) ->
   ∃ fd:FuncData,(∀ (s:Shared) (u:Value),BindsTo s fd ⟨[u],[]⟩ [("_law_script",u)])/\∀ base:Heap,(K w.params).In base->base.Ns mainGlobals mg->FnOk l.prog w (K w.params) mg base CX0 6 fa fd ["_law_script"] (spLaw (K w.params))) :
  PySem.W.WalkO q loose XP YP l.row.toRowW d [] (fun f vs=>PySem.call f vs) :=
 L2.walk_of (n:=63) (k:=6) (x := "_law_script") (CX:=fun _=>CX0) (sp:=fun w=>spLaw (K w.params)) hn (by decide) hdf ⟨rfl,by decide,by decide⟩ hY F (fun _ _ a ns hl _ hS=>⟨a,ns,rfl,hS,hl,fun _=>rfl⟩) fun _ _ _ _ _ z=>z
theorem all {l:PySem.W.OpenLaw} {w:World} {K:W.Frag} {h:Heap} {mg:Str->Option Value} {fa:Addr} (X:K.In h) (G:h.Ns mainGlobals mg) (hfa:mg "law" = some (.ref fa)) (T:Bn mg)
  (V_MOST_COMBS:∃ t,mg "MOST_COMBS" = some (.int 8 t))
  (V_MOST_NAME:∃ t,mg "MOST_NAME" = some (.int 6 t))
  (V_MOST_TOOTH:∃ t,mg "MOST_TOOTH" = some (.int 7 t))
  (V_MOST_DEEDS:∃ t,mg "MOST_DEEDS" = some (.int 300 t))
  (V_SHAPES:∃ t,mg "SHAPES" = some (.int 128 t))
  {t_TOOTH_WORTH:Addr} (G_TOOTH_WORTH:mg "TOOTH_WORTH" = some (.ref t_TOOTH_WORTH)) (TC_TOOTH_WORTH:tupChk K t_TOOTH_WORTH [1,2,4,8,16,32,64,128]=true)
  {C a0 a1 a2 a3 a4 a9 a11:Addr}
  (R0:mg "BadName" = some (.ref a0)) (X0:PySem.W.excIn K a0 valErr "ValueError.__new__" = true)
  (R1:mg "BadTeeth" = some (.ref a1)) (X1:PySem.W.excIn K a1 valErr "ValueError.__new__" = true)
  (R2:mg "NameTaken" = some (.ref a2)) (X2:PySem.W.excIn K a2 valErr "ValueError.__new__" = true)
  (R3:mg "BookFull" = some (.ref a3)) (X3:PySem.W.excIn K a3 valErr "ValueError.__new__" = true)
  (R4:mg "NoComb" = some (.ref a4)) (X4:PySem.W.excIn K a4 valErr "ValueError.__new__" = true)
  (R9:mg "DeedsFull" = some (.ref a9)) (X9:PySem.W.excIn K a9 valErr "ValueError.__new__" = true)
  (R11:mg "BadShape" = some (.ref a11)) (X11:PySem.W.excIn K a11 valErr "ValueError.__new__" = true)
  (INIT:InitAt K mg C "Book" "Book.__init__" s_Book___init__) (BCHK:bookChk K C=true)
  (N_put:MethAt K C "Book" "put" s_Book_put)
  (N_names:MethAt K C "Book" "names" s_Book_names)
  (N_teeth:MethAt K C "Book" "teeth" s_Book_teeth)
  (N_check_comb:MethAt K C "Book" "check_comb" s_Book_check_comb)
  (N_set_comb:MethAt K C "Book" "set_comb" s_Book_set_comb)
  (N_do_deed:MethAt K C "Book" "do_deed" s_Book_do_deed)
  (D_shape_steps:DefAt K mg "shape_steps" s_shape_steps)
  (D_teeth_worth:DefAt K mg "teeth_worth" s_teeth_worth)
  (D_step_table:DefAt K mg "step_table" s_step_table)
  (D_rows_going_on:DefAt K mg "rows_going_on" s_rows_going_on)
  (D_narrow_row:DefAt K mg "narrow_row" s_narrow_row)
  (D_leads_on:DefAt K mg "leads_on" s_leads_on)
  (D_walk_round:DefAt K mg "walk_round" s_walk_round)
  (D_first_lasting_step:DefAt K mg "first_lasting_step" s_first_lasting_step)
  (D_shapes_behind:DefAt K mg "shapes_behind" s_shapes_behind)
  (D_rows_to_the_end:DefAt K mg "rows_to_the_end" s_rows_to_the_end)
  (D_filled_strip:DefAt K mg "filled_strip" s_filled_strip)
  (D_fill_strip:DefAt K mg "fill_strip" s_fill_strip)
  (D_is_name:DefAt K mg "is_name" s_is_name)
  (D_is_small_letter:DefAt K mg "is_small_letter" s_is_small_letter)
  (D_are_teeth:DefAt K mg "are_teeth" s_are_teeth)
  (D_at:DefAt K mg "_law_at" s_at)
  (D_mixed:DefAt K mg "_law_mixed" s_mixed)
  (D_word:DefAt K mg "_law_word" s_word)
  (D_spare:DefAt K mg "_law_spare" s_spare)
  (D_menu:DefAt K mg "_law_menu" s_menu)
  (D_combs:DefAt K mg "_law_combs" s_combs)
  (D_book:DefAt K mg "_law_book" s_book)
  (D_after:DefAt K mg "_law_after" s_after)
  (D_goes:DefAt K mg "_law_goes" s_goes)
  (D_graph:DefAt K mg "_law_graph" s_graph)
  (D_live:DefAt K mg "_law_live" s_live)
  (D_whole:DefAt K mg "_law_whole" s_whole)
  (D_laying:DefAt K mg "_law_laying" s_laying)
  (D_layings:DefAt K mg "_law_layings" s_layings)
  (D_stripform:DefAt K mg "_law_stripform" s_stripform)
  (D_teeth:DefAt K mg "_law_teeth" s_teeth)
  (D_walk:DefAt K mg "_law_walk" s_walk)
  (D_law:DefAt K mg "law" s_law) :
  ∃ fd:FuncData,(∀ (s:Shared) (v:Value),BindsTo s fd ⟨[v],[]⟩ [("_law_script",v)])/\∀ base:Heap,K.In base->base.Ns mainGlobals mg->FnOk l.prog w K mg base CX0 6 fa fd ["_law_script"] (spLaw K):=by
 have BA:=book_of BCHK
 refine D_law.entry hfa (fun _ _ _ _ _ _ v=>rfl) fun base => ?_
 have m_check:=ok_check (P:=l.prog) (w:=w) (base:=base) (ea:=fun i => [a0,a1,a2,a3,a4,0,0,0,0,a9,0,a11,0,0,0].getD i 0) N_check_comb T BA ⟨R4,X4⟩
 have m_do:=ok_do (P:=l.prog) (w:=w) (base:=base) (ea:=fun i => [a0,a1,a2,a3,a4,0,0,0,0,a9,0,a11,0,0,0].getD i 0) N_do_deed T BA V_MOST_DEEDS ⟨R9,X9⟩
 have m_set:=ok_set (ea:=fun i => [a0,a1,a2,a3,a4,0,0,0,0,a9,0,a11,0,0,0].getD i 0) N_set_comb T BA m_do
 have m_put:=ok_put (ea:=fun i => [a0,a1,a2,a3,a4,0,0,0,0,a9,0,a11,0,0,0].getD i 0) N_put T BA V_MOST_COMBS ⟨R0,X0⟩ ⟨R1,X1⟩ ⟨R2,X2⟩ ⟨R3,X3⟩ (ok_name D_is_name T V_MOST_NAME (ok_small D_is_small_letter T)) (ok_teeth D_are_teeth T V_MOST_TOOTH) m_set
 have m_names:=ok_names (P:=l.prog) (w:=w) (base:=base) N_names T BA
 have m_teeth:=ok_bteeth N_teeth T BA m_check
 have c_at:=ok_at (P:=l.prog) (w:=w) (base:=base) D_at T
 have c_whole:=ok_whole (P:=l.prog) (w:=w) (base:=base) D_whole T
 have c_word:=ok_word (P:=l.prog) (w:=w) (base:=base) D_word T
 have c_combs:=ok_combs D_combs T c_at (ok_mixed D_mixed T) c_word (ok_spare D_spare T) (ok_menu D_menu T)
 have c_book:L2.Callee l.prog w K mg base "_law_book" 4 ["_law_kinds"] (sp_mkbook C):=by
  obtain ⟨fi,fdi,mk,fu⟩:=INIT.ex
  exact ok_mkbook D_book T BA ⟨fi,fdi,mk,ok_init fu T BA,INIT.m,fu.binds (fun _ _ _ _ _ _=>ln1 fun _=>rfl)⟩ m_put
 have f_steps:=ok_steps (ea:=fun i => [a0,a1,a2,a3,a4,0,0,0,0,a9,0,a11,0,0,0].getD i 0) D_shape_steps T BA V_SHAPES ⟨R11,X11⟩ (ok_worth D_teeth_worth T G_TOOTH_WORTH (tup_chk TC_TOOTH_WORTH)) m_names m_teeth
 have f_strip:=ok_strip D_fill_strip T (ok_table D_step_table T V_SHAPES f_steps) (ok_rows D_rows_going_on T (ok_narrow D_narrow_row T (ok_leads D_leads_on T))) (ok_walk D_walk_round T (ok_first D_first_lasting_step T)) (ok_fstrip D_filled_strip T) (ok_toend D_rows_to_the_end T (ok_behind D_shapes_behind T))
 exact ok_law D_law T c_combs c_book f_strip (ok_stripform D_stripform T c_whole (ok_layings D_layings T (ok_laying D_laying T c_whole))) (ok_graph D_graph T (ok_goes D_goes T (zeY D_after T))) (ok_live D_live T) (ok_walk13 D_walk T (ok_lteeth D_teeth T) (zeY D_after T))
end K13
open PySem PySem.W PyProof.Rows
namespace PySem.W.Fast
def tw5789639885465769214:=True
def tw11487404946195051173:=True
def tw5830829089153154518:=True
def tw10376769480862405452:=True
def tw8642495669130187391:=True
def tw10484943524845010881:=True
def tw1031249807332098110:=True
def tw2894674854769893534:=True
def tw1026406814277099541:=True
def tw3248643375282660382:=True
def tw12624313942276958616:=True
def tw8068474637232939447:=True
def tw3546713170120633088:=True
def tw15446003200797820894:=True
def tw7010538531343979492:=True
def tw2520391295298847956:=True
def tw342853562628156860:=True
def tw6646194429967934540:=True
def tw2519760634901214342:=True
def tw4799260634089662954:=True
def tw14072080411313983432:=True
def tw10459191407083122662:=True
def tw5607669579112680930:=True
def tw9709717039693414140:=True
def tw5920478662655144641:=True
def tw6352754662774575006:=True
def tw8309964434459336500:=True
def tw16358812158011748055:=True
def tw11344127416156812574:=True
def tw6574516684690184479:=True
def tw3899112331152541188:=True
def tw5695242781665874122:=True
def tw12466560867285787164:=True
def tw2064846826839794059:=True
def tw17518047525358932585:=True
def tw174917697821017345:=True
def tw2136960800756234071:=True
def tw14798996713134286175:=True
def tw4795866579391724636:=True
def tw12582212670771052560:=True
def tw3189236084627720764:=True
def tw9258363175540683533:=True
def tw10972843688865029702:=True
def tw4777227330297095511:=True
def tw15625148527539506430:=True
def tw2605262003064403580:=True
def tw2325875530614417941:=True
def tw14742641298773062699:=True
def tw15997993643399518146:=True
def tw2683163176975559805:=True
def tw12281084910969465082:=True
def tw1333765222865091630:=True
def tw12487570142599192519:=True
def tw17164185621097074143:=True
def tw1613703811677488023:=True
def tw11825542314023727547:=True
def tw2919221775499560848:=True
def tw14965740598096599720:=True
def tw11146541033301454084:=True
def tw10794042689171097961:=True
def tw9452296252196749141:=True
def tw7120056971192532185:=True
def tw318272932147202989:=True
def tw10514122879999352971:=True
def tw4007276997857913285:=True
def tw1691902838874746009:=True
def tw934816208852991646:=True
def tw5638989960198858857:=True
def tw15606206905123204739:=True
def tw478806767797409098:=True
def tw15153064447637184444:=True
def tw15900599976941750807:=True
def tw15122105075167215424:=True
def tw16116256777730096491:=True
def tw7624650715489749087:=True
def tw14697340003126943703:=True
def tw15554478909122473031:=True
def tw8396157998090618699:=True
def tw14832566876143244202:=True
def tw3129836215656992531:=True
def tw13329387644780847311:=True
def tw64678822583747488:=True
def tw14652670776330200699:=True
def tw1231753770472014720:=True
def tw6510377988085634953:=True
def tw6268660092292078115:=True
def tw10567031154813035154:=True
def tw5942979684270467669:=True
def tw4296462756419757274:=True
def tw18283441311429588265:=True
def tw3960312707665710038:=True
def tw1335304977147223191:=True
def tw15272410208824279796:=True
def tw6971301945574016178:=True
def tw16671792675703511368:=True
def tw11124444118917249166:=True
def tw1383124787887465371:=True
def tw17413583507850821634:=True
def tw9127740305178988509:=True
def tw4597373717503858926:=True
def tw7551832639264583977:=True
def tw11592266696065792435:=True
def tw14773100958522516566:=True
def tw15397557754043026947:=True
def tw7447813333635625901:=True
def tw5324188477277576982:=True
def tw10106179453479257636:=True
def tw801342347820255132:=True
def tw2835600059615191517:=True
def tw4618403825298112351:=True
def tw1086112678784736795:=True
def tw15857196986164001314:=True
def tw11124831621695783216:=True
def tw760381978714991136:=True
def tw3156868327078796298:=True
def tw8822740035100076139:=True
def tw11830077164138572601:=True
def tw12803603336714175940:=True
def tw14484604930153346707:=True
def tw17187452408507334749:=True
def tw18107450666408510151:=True
def tw4176321012542603944:=True
def tw12604219179573488982:=True
def tw89827084554285405:=True
def tw2122553234212641306:=True
def tw4272895278650946783:=True
def tw14929200663434134093:=True
def tw17905961289163069352:=True
def tw18345071967676354158:=True
def tw1483247200239736263:=True
def tw8710289894225974722:=True
def tw14925845475327474515:=True
def tw17377711917912183083:=True
def tw3850888403576718877:=True
def tw9342900964228183642:=True
def tw7269239876648361242:=True
def tw13539564062211653880:=True
def tw17867960320521044386:=True
def tw534459093961500995:=True
def tw5657617651354231965:=True
def tw8130822395747470831:=True
def tw5744935619840276019:=True
def tw12237559262963284642:=True
def tw9441849532288047526:=True
def tw9013872695141423543:=True
def tw5405232617928232048:=True
def tw18273993335887089082:=True
def tw15317785264109109749:=True
def tw9349684491839487252:=True
def tw13778145220402634013:=True
def tw16854030860265388806:=True
def tw11202064840585653866:=True
def tw12529883690093245515:=True
def tw4875631151251945801:=True
def tw16399808678305736522:=True
def tw5348036532762442040:=True
def tw13416706222676584581:=True
def tw536300703264179586:=True
def tw15283088264512981394:=True
def tw4934064631557452646:=True
def tw15649020484906102505:=True
def tw14994431290382975568:=True
def tw11422196944089381614:=True
def tw13255848606414053667:=True
def tw11058207627683866394:=True
def tw16980327942803693259:=True
def tw6600077310119487507:=True
def tw7728462546337065229:=True
def tw11904903639029388403:=True
def tw8710204964325044158:=True
def tw4450711658911368029:=True
def tw17639691422163287683:=True
def tw7287060366513039140:=True
def tw9493289448863284376:=True
def tw17408685560638105867:=True
def tw18007266907598960313:=True
def tw8505185754397002630:=True
def tw7777831220203162288:=True
def tw9080534352474862915:=True
def tw7377755234176710374:=True
def tw1947901358949906059:=True
def tw13240399393544360728:=True
def tw17561869590729313940:=True
def tw12025777347892364836:=True
def tw17130807587014359651:=True
def tw1525925257209869809:=True
def tw12032141511603417134:=True
def tw7591553098204156049:=True
def tw18109013775268472937:=True
def tw3420833661535339366:=True
def tw17748045150835188366:=True
def tw6177252008754672830:=True
def tw6775960886558948234:=True
def tw7752681027933703454:=True
def tw15117251440484816267:=True
def tw973846165234666107:=True
def tw11938107318014513950:=True
def tw8099264671062244867:=True
def tw9538009157752525764:=True
def tw17246518515374135000:=True
def tw607237494193751763:=True
def tw3474620602978169199:=True
def tw11362055646468480904:=True
def tw9821740878712825875:=True
def tw1853552622793136654:=True
def tw16975593194042840090:=True
def tw417905665964670541:=True
def tw17904097639914623560:=True
def tw8800523715879277231:=True
def tw8369589645327637692:=True
def tw8601651760918639547:=True
def tw6582731918909946629:=True
def tw12182167882453913375:=True
def tw5440893477613869513:=True
def tw15298549664139141140:=True
def tw14841712288413935469:=True
def tw14832074478099804336:=True
def tw3868076274756193269:=True
def tw12244781110485673009:=True
def tw14594222579142355261:=True
def tw8414038029440137607:=True
def tw9423816594436483430:=True
def tw11650020159569172693:=True
def tw2184067787965224823:=True
def tw15433483046791815252:=True
def tw5463357281731448688:=True
def tw15251150136553108852:=True
def tw2255505152338756391:=True
def tw5432324304353986711:=True
def tw17288610259347611882:=True
def tw10635748342511448044:=True
def tw15627046310338966231:=True
def tw17537607902241678906:=True
def tw2914834941890897101:=True
def tw17277415287314439233:=True
def tw11743661235414099992:=True
def tw13630476320983421592:=True
def tw4360457245025808901:=True
def tw2388385866306249270:=True
def tw14088557976275301073:=True
def tw12114424717640341837:=True
def tw8176974001496248926:=True
def tw14720235877268519925:=True
def tw3253196966081313870:=True
def tw5844239311032138679:=True
def tw7429016750168200563:=True
def tw145046091782005943:=True
def tw14958070319204377953:=True
def tw9952063144041107353:=True
def tw16772068124402632568:=True
def tw14018345792115118832:=True
def tw5116469638132882488:=True
def tw8694191452220112357:=True
def tw11808978577980747186:=True
def tw13516487807600781027:=True
def tw991558868121061174:=True
def tw12114849615072138399:=True
def tw7946893432639891449:=True
def tw17114346803819740173:=True
def tw6213779563876766004:=True
def tw9221111035796580588:=True
def tw13755538436585689925:=True
def tw9360490495227884731:=True
def tw16461636452583807597:=True
def tw12450273545917598217:=True
def tw17707930095924215612:=True
def tw8173271338249254755:=True
def tw4992101639320278876:=True
def tw15922913256877360930:=True
def tw15086480453233422732:=True
def tw18365068046543765207:=True
def tw10520768866816397873:=True
def tw5044064364651543049:=True
def tw6533289389909675334:=True
def tw6042612531062009702:=True
def tw14069497496867316088:=True
def tw9718824534425545394:=True
def tw17755925903903454257:=True
def tw17404793299970796240:=True
def tw2295926801555797905:=True
def tw9077390864104482392:=True
def tw4399489874055261639:=True
def tw14803533926562205931:=True
def tw2040072040157304715:=True
def tw11360798403017461524:=True
def tw1704806183997598826:=True
def tw18084125988424153737:=True
def tw16039903986203374105:=True
def tw3469079845803217506:=True
def tw11603178312700801866:=True
def tw5122209815449571706:=True
def tw11190616052862192212:=True
def tw8369587508837970027:=True
def tw16687634328277368572:=True
def tw11504938292684716224:=True
def tw6927413410826111082:=True
def tw11006224250581182048:=True
def tw1213181144804940440:=True
def tw13823164663470250126:=True
def tw12067970030373600971:=True
def tw101725053764149309:=True
def tw3230585664796638583:=True
def tw2420809356804991339:=True
def tw13533257318350498980:=True
def tw4314666653119854872:=True
def tw13011172658653438539:=True
def tw9743640352451778944:=True
def tw3546657743334742668:=True
def tw11067582464496902684:=True
def tw12737419495714137323:=True
def tw14894300731754168176:=True
def tw6135394305047852649:=True
def tw1466319065036157148:=True
def tw14338413720844719818:=True
def tw11537907413403597922:=True
def tw8554963590165231798:=True
def tw4335729583125406316:=True
def tw9178322260721666170:=True
def tw4411416520724410761:=True
def tw2358358846136397498:=True
def tw5958004760248594617:=True
def tw15633554806035729355:=True
def tw3329832816569069921:=True
def tw9952255064432115645:=True
def tw2537897787863018330:=True
def tw6550426082107287046:=True
def tw61625043668898903:=True
def tw7497004689527325597:=True
def tw10674962149913199090:=True
def tw2096838730704434877:=True
def tw17681839129874550937:=True
def tw13181769786172170775:=True
def tw6134736935343756162:=True
def tw9931622273057124214:=True
def tw5062336254978101480:=True
def tw12308291768541259615:=True
def tw1219751983155817845:=True
def tw6080172019926194394:=True
def tw10495116133376802187:=True
def tw15858519631745476289:=True
def tw13894774161442586581:=True
def tw8604013091480716372:=True
def tw5714221107530310508:=True
def tw12955368158156475154:=True
def tw14327447613703221244:=True
def tw14057027451688208145:=True
def tw10212219124267176742:=True
def tw11252848437231582167:=True
def tw9485680892781829776:=True
def tw6333346365758367816:=True
def tw380451242610883934:=True
def tw718642056454727274:=True
def tw8179832086116170883:=True
def tw15724675207601361515:=True
def tw16689289629515298155:=True
def tw757040566021925041:=True
def tw7924088818856631477:=True
def tw2392930308073725813:=True
def tw375407988496322955:=True
def tw204040479331335967:=True
def tw11119188069295243877:=True
def tw14449192017828007446:=True
def tw10611749054982684856:=True
def tw15465933057450403818:=True
def tw4182855406391059810:=True
def tw9275713274312160514:=True
def tw14279943819559199069:=True
def tw5444031578853372178:=True
def tw12423934957563319325:=True
def tw5450248083281934881:=True
def tw16927562630767671634:=True
def tw9495823518227904788:=True
def tw6849037710769599699:=True
def tw8467622739299623136:=True
def tw996715861481649222:=True
def tw9897018774858307287:=True
def tw2127679181908538521:=True
def tw3009315548782420002:=True
def tw2095157651884208216:=True
def tw6705023371041153239:=True
def tw2706722252499081017:=True
def tw2667418193975151999:=True
def tw2623197024701345686:=True
def tw13749054385979924310:=True
def tw4949254859511449883:=True
def tw3512402346303580650:=True
def tw1795203549156232425:=True
def tw15682005981092584648:=True
def tw14335425446140641693:=True
def tw16657528098633132506:=True
def tw6171774295711923442:=True
def tw16325963471549988951:=True
def tw5286413634377198345:=True
def tw17904582038606435954:=True
def tw8279868162642459058:=True
def tw2319363326788197085:=True
def tw990908351365810832:=True
def tw1334364449968731601:=True
def tw14901843574121840793:=True
def tw15573808691303212995:=True
def tw15786460087414211707:=True
def tw9481303819875888794:=True
def tw12052843318395234379:=True
def tw11770235826392303648:=True
def tw3447322383458842930:=True
def tw9560806733737070919:=True
def tw9470400556248541877:=True
def tw9901365184158272034:=True
def tw4429846433057700814:=True
def tw18012354396167022336:=True
def tw17234664338806761965:=True
def tw3600139471013320795:=True
def tw8793074949088784120:=True
def tw17606806585915912723:=True
def tw7804099052904429269:=True
def tw3840536731592152618:=True
def tw4468715500282431338:=True
def tw11660825634708823011:=True
def tw14421181787867638018:=True
def tw7204405532400444764:=True
def tw11407141156077117815:=True
def tw7275522957662259433:=True
def tw6516557632500346684:=True
def tw8924665093923814666:=True
def tw1077818369617539839:=True
def tw17190086135933858561:=True
def tw2747819751023562421:=True
def tw5662754720878895726:=True
def tw12240455888025482238:=True
def tw2149522439867906427:=True
def tw10319602519563993447:=True
def tw13691359936659229951:=True
def tw3392168703257488109:=True
def tw2190184096961639128:=True
def tw13113778558548390109:=True
def tw10656267622331000766:=True
def tw4258919933640918351:=True
def tw4044528719483082492:=True
def tw11347294275786880290:=True
def tw13135376369498558551:=True
def tw2124143851159704357:=True
def tw10465220986436029853:=True
def tw9193385159957183343:=True
def tw16665520351884893650:=True
def tw3974050140453638806:=True
def tw15795791532422498804:=True
def tw9425227243588396772:=True
def tw3502204601230651305:=True
def tw8225193567042086643:=True
def tw10599668205570707885:=True
def tw18108519733721941303:=True
def tw9385891028262461942:=True
def tw5361596884828769843:=True
def tw16056144542596049067:=True
def tw14340720367876837340:=True
def tw16460866907302976984:=True
def tw17683519807224920657:=True
def tw10029710116106325028:=True
def tw7976103862241647731:=True
def tw5809638894799482389:=True
def tw8363851687454907563:=True
def tw7067697198300831219:=True
def tw12979649124103765494:=True
def tw969348229574751418:=True
def tw10312383260894104430:=True
def tw9971182529695903467:=True
def tw16142789065763873651:=True
def tw4178978364724788259:=True
def tw6501593104378149467:=True
def tw8714507372353200276:=True
def tw13793472359250165248:=True
def tw4015144573890870443:=True
def tw8010776009717012238:=True
def tw13395515549375857753:=True
def tw13038662592953016918:=True
def tw3403222077098251294:=True
def tw12698334700688122020:=True
def tw379545003452844484:=True
def tw4517518476589351620:=True
def tw1513486233572647069:=True
def tw5900419005151116651:=True
def tw5222931864892274631:=True
def tw13933192351425744431:=True
def tw7615022294055429355:=True
def tw4272430022367491983:=True
def tw8412724898489026217:=True
def tw14686444102106441334:=True
def tw17670780533668985280:=True
def tw3808079202848739904:=True
def tw11492318774297416820:=True
def tw9401365888753837522:=True
def tw12781703411296321586:=True
def tw15990528361706556196:=True
def tw9449262400443620397:=True
def tw12711822682782661979:=True
def tw7188807295664593444:=True
def tw15196558923245538216:=True
def tw4478323464774231612:=True
def tw16874985578283011576:=True
def tw17053082909198844119:=True
def tw11046820452968820022:=True
def tw12086678988763234980:=True
def tw2246519672030366555:=True
def tw2426866777853819706:=True
def tw630203280734144335:=True
def tw3419988848511565621:=True
def tw12105472474877891422:=True
def tw17636431116037360219:=True
def tw1337120357813470712:=True
def tw10260283553720718221:=True
def tw1883906064170768400:=True
def tw17180049323077109285:=True
def tw15612131805730936449:=True
def tw14126930476133154566:=True
def tw9582188017753731718:=True
def tw14843875839134659686:=True
def tw11196608049318193694:=True
def tw6338776653941098750:=True
def tw2234866709352270203:=True
def tw4386530648321434090:=True
def tw6384350782770851137:=True
def tw98261818270077931:=True
def tw5862502838378260643:=True
def tw3886108280875146984:=True
def tw12335182595567495439:=True
def tw1960035147643889957:=True
def tw4749534603835706204:=True
def tw3064410289354441702:=True
def tw4067485380516896892:=True
def tw18235925845329683403:=True
def tw4164553282346312933:=True
def tw1111323785970844616:=True
def tw6251822018615121866:=True
def tw14113907182017632323:=True
def tw1343653491563762969:=True
def tw6248834345077095542:=True
def tw8790496783107162300:=True
def tw7408995887920730493:=True
def tw397733156263729687:=True
def tw15108997137086803417:=True
def tw13460322967078365877:=True
def tw1338931463985644897:=True
def tw5405394906706393360:=True
def tw1554617312196533023:=True
def tw1134865989886088972:=True
def tw4233275757201541599:=True
def tw5485983131745464845:=True
def tw5638674220527375470:=True
def tw469253923843336402:=True
def tw2314271041025778449:=True
def tw63698030696033140:=True
def tw11381308733261236911:=True
def tw13133770884891388063:=True
def tw3554487787948099539:=True
def tw13063620078563581324:=True
def tw6538272097155438563:=True
def tw7363056956242286141:=True
def tw2045460096582257687:=True
def tw8704345626654057045:=True
def tw4168394670669713128:=True
def tw744918380863435798:=True
def tw10191344791827508648:=True
def tw7752660523299610518:=True
def tw15343785045153019782:=True
def tw9380138915448266977:=True
def tw3131074720965704429:=True
def tw15195476588310592156:=True
def tw13518830709379490204:=True
def tw234067466824361066:=True
def tw9782260145216162679:=True
def tw7709506207846839670:=True
def tw14908407362170450795:=True
def tw7074948285043610865:=True
def tw13667338727266788107:=True
def tw9540159708175153658:=True
def tw4499220984118369804:=True
def tw8266052956968131363:=True
def tw5057583593526849964:=True
def tw2414601366520448796:=True
def tw16822997402328198462:=True
def tw16430083280137966348:=True
def tw16681366812596180471:=True
def tw15745879496823465166:=True
def tw3732606429276022461:=True
def tw13526585033455634001:=True
def tw13393609780883898705:=True
def tw4522873999585468808:=True
def tw15296793027170507716:=True
def tw6077042827393952623:=True
def tw3139694024722044005:=True
def tw11053747512558139856:=True
def tw3975978360215229006:=True
def tw8446172384734438197:=True
def tw5125042283449890903:=True
def tw185454184585901494:=True
def tw562336545417171276:=True
def tw5423032553591561066:=True
def tw15962232534423155824:=True
def tw10753105853270505378:=True
end PySem.W.Fast
set_option maxRecDepth 100000 in
set_option maxHeartbeats 0 in
theorem PySem.Challenge.cw_combstrip_k13_strip_comes_again_holds : PySem.Challenge.rw_combstrip_k13_strip_comes_again.Holds := by
 w_on; o_law; k_head; (case hw=>w_witness2)
 k_fill
 refine K13.walk (l:=PySem.Challenge.rw_combstrip_k13_strip_comes_again) rfl rfl (fun w h Y=>PySem.W.kIn_of Y) ?F
 case F =>
  intro w mg fa h KX G hmg
  refine' K13.all KX G hmg (L2.bn_mk KX G ?n0 ?n1 ?n2 ?n3 ?n4 ?n5 ?n6 ?n7 ?n8 ?n9 ?n10 ?n11 ?n12 ?n13 ?n14 ?n15 ?n16 ?n17 ?n18 ?n19 ?n20) ?v0 ?v1 ?v2 ?v3 ?v4 ?zgt0 ?ztc0 ?r0 ?zx0 ?r1 ?zx1 ?r2 ?zx2 ?r3 ?zx3 ?r4 ?zx4 ?r9 ?zx9 ?r11 ?zx11 ?zini ?zbc ?m0 ?m1 ?m2 ?m3 ?m4 ?m5 ?d0 ?d1 ?d2 ?d3 ?d4 ?d5 ?d6 ?d7 ?d8 ?d9 ?d10 ?d11 ?d12 ?d13 ?d14 ?d15 ?d16 ?d17 ?d18 ?d19 ?d20 ?d21 ?d22 ?d23 ?d24 ?d25 ?d26 ?d27 ?d28 ?d29 ?d30 ?d31 ?d32
  (case n0=>k_is)
  (case n1=>k_is)
  (case n2=>k_is)
  (case n3=>k_is)
  (case n4=>k_is)
  (case n5=>k_is)
  (case n6=>k_is)
  (case n7=>k_is)
  (case n8=>k_is)
  (case n9=>k_is)
  (case n10=>k_is)
  (case n11=>k_is)
  (case n12=>k_is)
  (case n13=>k_is)
  (case n14=>k_is)
  (case n15=>k_is)
  (case n16=>k_is)
  (case n17=>k_is)
  (case n18=>k_is)
  (case n19=>k_is)
  (case n20=>k_is)
  (case v0=>refine' L2.int_mk KX G ?a; (case a=>k_is))
  (case v1=>refine' L2.int_mk KX G ?a; (case a=>k_is))
  (case v2=>refine' L2.int_mk KX G ?a; (case a=>k_is))
  (case v3=>refine' L2.int_mk KX G ?a; (case a=>k_is))
  (case v4=>refine' L2.int_mk KX G ?a; (case a=>k_is))
  (case zgt0=>refine' L2.ref_mk KX G ?a; (case a=>k_is))
  (case ztc0=>kernel_rfl)
  (case r0=>refine' L2.ref_mk KX G ?a; (case a=>k_is))
  (case zx0=>kernel_rfl)
  (case r1=>refine' L2.ref_mk KX G ?a; (case a=>k_is))
  (case zx1=>kernel_rfl)
  (case r2=>refine' L2.ref_mk KX G ?a; (case a=>k_is))
  (case zx2=>kernel_rfl)
  (case r3=>refine' L2.ref_mk KX G ?a; (case a=>k_is))
  (case zx3=>kernel_rfl)
  (case r4=>refine' L2.ref_mk KX G ?a; (case a=>k_is))
  (case zx4=>kernel_rfl)
  (case r9=>refine' L2.ref_mk KX G ?a; (case a=>k_is))
  (case zx9=>kernel_rfl)
  (case r11=>refine' L2.ref_mk KX G ?a; (case a=>k_is))
  (case zx11=>kernel_rfl)
  (case zini=>refine' L2.init_mk (L2.ref_mk KX G ?z) ?a ?l ?c ?k ?i ?k2 ?mk; (case z=>k_is); (case a=>k_is); (case l=>k_is); (case c=>k_is); (case k=>k_is); (case i=>k_is); (case k2=>k_is); (case mk=>k_is))
  (case zbc=>kernel_rfl)
  (case m0=>refine' L2.meth_mk ?a ?l ?c ?k ?i; (case a=>k_is); (case l=>k_is); (case c=>k_is); (case k=>k_is); (case i=>k_is))
  (case m1=>refine' L2.meth_mk ?a ?l ?c ?k ?i; (case a=>k_is); (case l=>k_is); (case c=>k_is); (case k=>k_is); (case i=>k_is))
  (case m2=>refine' L2.meth_mk ?a ?l ?c ?k ?i; (case a=>k_is); (case l=>k_is); (case c=>k_is); (case k=>k_is); (case i=>k_is))
  (case m3=>refine' L2.meth_mk ?a ?l ?c ?k ?i; (case a=>k_is); (case l=>k_is); (case c=>k_is); (case k=>k_is); (case i=>k_is))
  (case m4=>refine' L2.meth_mk ?a ?l ?c ?k ?i; (case a=>k_is); (case l=>k_is); (case c=>k_is); (case k=>k_is); (case i=>k_is))
  (case m5=>refine' L2.meth_mk ?a ?l ?c ?k ?i; (case a=>k_is); (case l=>k_is); (case c=>k_is); (case k=>k_is); (case i=>k_is))
  (case d0=>refine' L2.def_mk KX G ?a ?l ?c ?k; (case a=>k_is); (case l=>k_is); (case c=>k_is); (case k=>k_is))
  (case d1=>refine' L2.def_mk KX G ?a ?l ?c ?k; (case a=>k_is); (case l=>k_is); (case c=>k_is); (case k=>k_is))
  (case d2=>refine' L2.def_mk KX G ?a ?l ?c ?k; (case a=>k_is); (case l=>k_is); (case c=>k_is); (case k=>k_is))
  (case d3=>refine' L2.def_mk KX G ?a ?l ?c ?k; (case a=>k_is); (case l=>k_is); (case c=>k_is); (case k=>k_is))
  (case d4=>refine' L2.def_mk KX G ?a ?l ?c ?k; (case a=>k_is); (case l=>k_is); (case c=>k_is); (case k=>k_is))
  (case d5=>refine' L2.def_mk KX G ?a ?l ?c ?k; (case a=>k_is); (case l=>k_is); (case c=>k_is); (case k=>k_is))
  (case d6=>refine' L2.def_mk KX G ?a ?l ?c ?k; (case a=>k_is); (case l=>k_is); (case c=>k_is); (case k=>k_is))
  (case d7=>refine' L2.def_mk KX G ?a ?l ?c ?k; (case a=>k_is); (case l=>k_is); (case c=>k_is); (case k=>k_is))
  (case d8=>refine' L2.def_mk KX G ?a ?l ?c ?k; (case a=>k_is); (case l=>k_is); (case c=>k_is); (case k=>k_is))
  (case d9=>refine' L2.def_mk KX G ?a ?l ?c ?k; (case a=>k_is); (case l=>k_is); (case c=>k_is); (case k=>k_is))
  (case d10=>refine' L2.def_mk KX G ?a ?l ?c ?k; (case a=>k_is); (case l=>k_is); (case c=>k_is); (case k=>k_is))
  (case d11=>refine' L2.def_mk KX G ?a ?l ?c ?k; (case a=>k_is); (case l=>k_is); (case c=>k_is); (case k=>k_is))
  (case d12=>refine' L2.def_mk KX G ?a ?l ?c ?k; (case a=>k_is); (case l=>k_is); (case c=>k_is); (case k=>k_is))
  (case d13=>refine' L2.def_mk KX G ?a ?l ?c ?k; (case a=>k_is); (case l=>k_is); (case c=>k_is); (case k=>k_is))
  (case d14=>refine' L2.def_mk KX G ?a ?l ?c ?k; (case a=>k_is); (case l=>k_is); (case c=>k_is); (case k=>k_is))
  (case d15=>refine' L2.def_mk KX G ?a ?l ?c ?k; (case a=>k_is); (case l=>k_is); (case c=>k_is); (case k=>k_is))
  (case d16=>refine' L2.def_mk KX G ?a ?l ?c ?k; (case a=>k_is); (case l=>k_is); (case c=>k_is); (case k=>k_is))
  (case d17=>refine' L2.def_mk KX G ?a ?l ?c ?k; (case a=>k_is); (case l=>k_is); (case c=>k_is); (case k=>k_is))
  (case d18=>refine' L2.def_mk KX G ?a ?l ?c ?k; (case a=>k_is); (case l=>k_is); (case c=>k_is); (case k=>k_is))
  (case d19=>refine' L2.def_mk KX G ?a ?l ?c ?k; (case a=>k_is); (case l=>k_is); (case c=>k_is); (case k=>k_is))
  (case d20=>refine' L2.def_mk KX G ?a ?l ?c ?k; (case a=>k_is); (case l=>k_is); (case c=>k_is); (case k=>k_is))
  (case d21=>refine' L2.def_mk KX G ?a ?l ?c ?k; (case a=>k_is); (case l=>k_is); (case c=>k_is); (case k=>k_is))
  (case d22=>refine' L2.def_mk KX G ?a ?l ?c ?k; (case a=>k_is); (case l=>k_is); (case c=>k_is); (case k=>k_is))
  (case d23=>refine' L2.def_mk KX G ?a ?l ?c ?k; (case a=>k_is); (case l=>k_is); (case c=>k_is); (case k=>k_is))
  (case d24=>refine' L2.def_mk KX G ?a ?l ?c ?k; (case a=>k_is); (case l=>k_is); (case c=>k_is); (case k=>k_is))
  (case d25=>refine' L2.def_mk KX G ?a ?l ?c ?k; (case a=>k_is); (case l=>k_is); (case c=>k_is); (case k=>k_is))
  (case d26=>refine' L2.def_mk KX G ?a ?l ?c ?k; (case a=>k_is); (case l=>k_is); (case c=>k_is); (case k=>k_is))
  (case d27=>refine' L2.def_mk KX G ?a ?l ?c ?k; (case a=>k_is); (case l=>k_is); (case c=>k_is); (case k=>k_is))
  (case d28=>refine' L2.def_mk KX G ?a ?l ?c ?k; (case a=>k_is); (case l=>k_is); (case c=>k_is); (case k=>k_is))
  (case d29=>refine' L2.def_mk KX G ?a ?l ?c ?k; (case a=>k_is); (case l=>k_is); (case c=>k_is); (case k=>k_is))
  (case d30=>refine' L2.def_mk KX G ?a ?l ?c ?k; (case a=>k_is); (case l=>k_is); (case c=>k_is); (case k=>k_is))
  (case d31=>refine' L2.def_mk KX G ?a ?l ?c ?k; (case a=>k_is); (case l=>k_is); (case c=>k_is); (case k=>k_is))
  (case d32=>refine' L2.def_mk KX G ?a ?l ?c ?k; (case a=>k_is); (case l=>k_is); (case c=>k_is); (case k=>k_is))
